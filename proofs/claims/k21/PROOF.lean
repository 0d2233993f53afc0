import PyProof.Rows.All
import Wide.All
import OpenK.AllK
import Wide.FinOn
import HandS.ForMost
import HandS.Walk
import HandS.Deep
import HandS.IsInst
import HandS.More
import HandS.StrMore
import HandS.ForExc
import HandS.Lambda
import HandS.TupLen
import HandS.Conv
import HandS.DictComp
import HandS.SortRule
import HandS.Style
import HandS.SortInts
import HandS.Strs
import HandS.HotCalls
import HandS.ExcIs
import HandS.TupSets
import HandS.Iter
import HandS.Text
import HandS.Comp
import PyProof.EnumMake
import KE.GoesMore
import HandS.SetKeys
import HandS.Set
import PyProof.Rows.RegReprOcc
import PyProof.StrOps2
import PySem.Challenge.RW_rimword_k21_whole_drawn_and_read
set_option Elab.async false
set_option linter.all false
set_option maxRecDepth 100000
set_option maxHeartbeats 8000000
/-! Data over the heap: a layer of my own over the hand layer. A def's body is read as a function of plain data. -/
namespace Dl
open PySem PySem.Spec L2
/-! ### 1. Data, and how it lies in a heap -/
inductive Dat where
  | non | bl (b : Bool) | int (i : Int) | str (x : Str) | tup (xs : List Dat) | ctup (xs : List Dat) | lst (xs : List Dat) | dice
  | obj (c : Str) (ks : List Str) (xs : List Dat)
  | dT (ks : List (List Key)) (xs : List Dat)
  | ftup (xs : List Dat)
  | dK (ks : List Key) (xs : List Dat)
  | cst (v : V)
/-- what may change -/
def isMut : HO → Bool
  | .lst _ => true
  | .dK _ => true
  | .dT _ => true
  | .set _ _ => true
  | .ins _ _ _ => true
  | .ext _ => true
  | .tbl _ => true
  | _ => false
def isTb : HO → Bool
  | .tbl _ => true
  | _ => false
def isEx : HO → Bool
  | .ext _ => true
  | _ => false
abbrev TabS := LamX.TabS
theorem noT {p : Prop} {o : HO} (z : p ∨ isTb o = true) (h : isTb o = false) : p := z.resolve_right fun e => by rw [h] at e; cases e
/-- all that stood stands, but for what may change at N -/
structure Keep (N : Addr → Prop) (H H' : Hp) : Prop where
  k : ∀ b o, H b = some o → (N b ∨ isTb o = true → isMut o = false) → H' b = some o
  t : ∀ P q, TabS H P q → TabS H' P q
  tb : ∀ b ps, H b = some (.tbl ps) → ∃ ps', H' b = some (.tbl ps')
instance {N : Addr → Prop} {H H' : Hp} : CoeFun (Keep N H H') fun _ => ∀ b o, H b = some o → (N b ∨ isTb o = true → isMut o = false) → H' b = some o := ⟨Keep.k⟩
/-- an object that is neither a table nor a code object has changed -/
theorem tabS_upd {H : Hp} {p : Addr} {o o' : HO} (e : H p = some o) (h1 : isTb o = false) (h2 : isEx o = false) {P : Addr} {q : Str} (t : TabS H P q) : TabS (upd H p o') P q := by
  obtain ⟨ps, a1, a2, a3⟩ := t
  have ne : P ≠ p := fun z => by rw [z, e] at a1; cases a1; cases h1
  refine ⟨ps, by rw [upd_ne ne]; exact a1, a2, fun pos cv hc => ?_⟩
  obtain ⟨c, e1, e2⟩ := a3 pos cv hc
  have nc : c ≠ p := fun z => by rw [z, e] at e2; cases e2; cases h2
  exact ⟨c, e1, by rw [upd_ne nc]; exact e2⟩
theorem tabS_same {H H' : Hp} (s : ∀ b o, H b = some o → H' b = some o) {P : Addr} {q : Str} (t : TabS H P q) : TabS H' P q := LamX.TabS.ext t s
theorem Keep.refl {N : Addr → Prop} {H : Hp} : Keep N H H := ⟨fun _ _ h _ => h, fun _ _ t => t, fun _ _ h => ⟨_, h⟩⟩
theorem Keep.trans {N : Addr → Prop} {H H1 H2 : Hp} (a : Keep N H H1) (b : Keep N H1 H2) : Keep N H H2 := ⟨fun c o h n => b c o (a c o h n) n, fun P q t => b.t P q (a.t P q t), fun c ps h => (a.tb c ps h).elim fun ps' h' => b.tb c ps' h'⟩
theorem Keep.weak {N N' : Addr → Prop} {H H' : Hp} (a : Keep N H H') (h : ∀ b, N b → N' b) : Keep N' H H' := ⟨fun c o e n => a c o e fun z => n (z.imp (h c) id), a.t, a.tb⟩
theorem Keep.of_same {N : Addr → Prop} {H H' : Hp} (s : Same H H') : Keep N H H' := ⟨fun c o h _ => s c o h, fun _ _ t => tabS_same s t, fun c ps h => ⟨ps, s c _ h⟩⟩
theorem Keep.fresh {N : Addr → Prop} {H : Hp} {p : Addr} {o : HO} (h : H p = none) : Keep N H (upd H p o) := .of_same fun c u e => by
  rw [upd_ne (ne_of_none e h)]
  exact e
/-- one object that may change has changed -/
theorem Keep.at {N : Addr → Prop} {H : Hp} {p : Addr} {o o' : HO} (e : H p = some o) (hN : N p) (hm : isMut o = true) (h1 : isTb o = false) (h2 : isEx o = false) : Keep N H (upd H p o') := by
  have ne : ∀ b u, H b = some u → (isTb u = true ∨ (N b → isMut u = false)) → b ≠ p := fun b u hb hn z => by
    rw [z, e] at hb
    cases hb
    rcases hn with hn | hn
    · rw [h1] at hn; cases hn
    · rw [z] at hn
      rw [hn hN] at hm; cases hm
  refine ⟨fun b u hb hn => ?_, fun P q t => tabS_upd e h1 h2 t, fun b ps hb => ⟨ps, ?_⟩⟩
  · rw [upd_ne (ne b u hb (.inr fun z => hn (.inl z)))]
    exact hb
  · rw [upd_ne (ne b _ hb (.inl rfl))]
    exact hb
theorem Keep.off {N : Addr → Prop} {H0 H : Hp} (k : Keep N H0 H) {p : Addr} {o o' : HO} (g : H0 p = none) (e : H p = some o) (h1 : isTb o = false) (h2 : isEx o = false) : Keep N H0 (upd H p o') := by
  refine ⟨fun b u hb hn => ?_, fun P q t => tabS_upd e h1 h2 (k.t P q t), fun b ps hb => ?_⟩
  · rw [upd_ne fun z => by rw [z, g] at hb; cases hb]
    exact k.k b u hb hn
  · rw [upd_ne fun z => by rw [z, g] at hb; cases hb]
    exact k.tb b ps hb
theorem noC {o : HO} {a : Addr} (h : isEx o = false) : ∀ q, o ≠ LamX.CodeO a q := fun q z => by rw [z] at h; cases h
def Plain (a : Addr) (x : Option HO) : Prop := ∀ o, x = some o → isTb o = false ∧ ∀ q, o ≠ LamX.CodeO a q
theorem tabS_but {H H1 : Hp} {a : Addr} (ne : ∀ b, b ≠ a → H1 b = H b) (pl : Plain a (H a)) {P : Addr} {q : Str} (t : TabS H P q) : TabS H1 P q := by
  obtain ⟨ps, a1, a2, a3⟩ := t
  have nP : P ≠ a := fun z => by
    have := (pl _ (by rw [← z]; exact a1)).1
    cases this
  refine ⟨ps, by rw [ne P nP]; exact a1, a2, fun pos cv hc => ?_⟩
  obtain ⟨c, e1, e2⟩ := a3 pos cv hc
  have nc : c ≠ a := fun z => (pl _ (by rw [← z]; exact e2)).2 q (by rw [z])
  exact ⟨c, e1, by rw [ne c nc]; exact e2⟩
theorem keep_but {N : Addr → Prop} {A B A' B' : Hp} {a : Addr} (kk : Keep N A B) (nA : ∀ b, b ≠ a → A' b = A b) (nB : ∀ b, b ≠ a → B' b = B b) (old : A' a = none ∨ A' a = B' a) (pA : Plain a (A' a)) (pB : Plain a (B a)) : Keep N A' B' := by
  refine ⟨fun b o e n => ?_, fun P q t => tabS_but nB pB (kk.t P q (tabS_but (fun b hb => (nA b hb).symm) pA t)), fun b ps e => ?_⟩
  · by_cases h : b = a
    · subst h
      rcases old with old | old
      · rw [old] at e; cases e
      · rw [← old]; exact e
    · rw [nB b h]
      exact kk.k b o (by rw [← nA b h]; exact e) n
  · have h : b ≠ a := fun z => by
      have := (pA _ (by rw [← z]; exact e)).1
      cases this
    rw [nB b h]
    exact kk.tb b ps (by rw [← nA b h]; exact e)
/-- .. of an object that is no table and no code object -/
theorem Keep.atC {N : Addr → Prop} {H : Hp} {p : Addr} {o o' : HO} (e : H p = some o) (hN : N p) (hm : isMut o = true) (pl : Plain p (some o)) : Keep N H (upd H p o') := by
  refine ⟨fun b u hb hn => ?_, fun P q t => tabS_but (fun b hb => upd_ne hb) (by rw [e]; exact pl) t, fun b ps hb => ⟨ps, ?_⟩⟩
  · by_cases z : b = p
    · subst z
      rw [e] at hb
      cases hb
      rw [hn (.inl hN)] at hm; cases hm
    · rw [upd_ne z]; exact hb
  · rw [upd_ne fun z => by rw [z, e] at hb; have := (pl _ hb).1; cases this]
    exact hb
/-- what stood stands, changed or not -/
theorem Keep.there {N : Addr → Prop} {H H' : Hp} (k : Keep N H H') {b : Addr} {o : HO} (h : H b = some o) (hn : N b → H' b ≠ none) : H' b ≠ none := fun z => by
  by_cases hN : N b
  · exact hn hN z
  · cases ht : isTb o with
    | true =>
      cases o <;> first | (cases ht; done) | skip
      obtain ⟨ps', e⟩ := k.tb b _ h
      rw [e] at z; cases z
    | false =>
      have := k.k b o h fun z => absurd (noT z ht) hN
      rw [this] at z; cases z
theorem same_fresh {H : Hp} {p : Addr} {o : HO} (h : H p = none) : Same H (upd H p o) := fun c u e => by
  rw [upd_ne (ne_of_none e h)]
  exact e
theorem same_refl {H : Hp} : Same H H := fun _ _ h => h
mutual
inductive Rp (K : PySem.W.Frag) (mg : Str → Option Value) (d : Option Addr) (N : Addr → Prop) (H : Hp) : V → Dat → Prop
  | non : Rp K mg d N H .non .non
  | bl (b : Bool) : Rp K mg d N H (.bl b) (.bl b)
  | int (i : Int) : Rp K mg d N H (.int i) (.int i)
  | str (x : Str) : Rp K mg d N H (.str x) (.str x)
  | tup {a : Addr} {vs : List V} {xs : List Dat} : H a = some (.tup vs) → RpA K mg d N H vs xs → Rp K mg d N H (.ref a) (.tup xs)
  | ctup {a : Addr} {vs : List V} {xs : List Dat} : SqT K H a vs → RpA K mg d N H vs xs → Rp K mg d N H (.ref a) (.ctup xs)
  | lst {a : Addr} {vs : List V} {xs : List Dat} : H a = some (.lst vs) → ¬ N a → RpA K mg d N H vs xs → Rp K mg d N H (.ref a) (.lst xs)
  | dice {a : Addr} : d = some a → Rp K mg d N H (.ref a) .dice
  | obj {a C dx : Addr} {c : Str} {ks : List Str} {vs : List V} {xs : List Dat} : mg c = some (.ref C) → H a = some (.ins C dx (ks.zip vs)) → ks.length = vs.length → ¬ N a → RpA K mg d N H vs xs → Rp K mg d N H (.ref a) (.obj c ks xs)
  | dT {a : Addr} {ks : List (List Key)} {vs : List V} {xs : List Dat} : Rd H a (.dT (ks.zip vs)) → ks.length = vs.length → ¬ N a → RpA K mg d N H vs xs → Rp K mg d N H (.ref a) (.dT ks xs)
  | ftup {a : Addr} {o : Obj} {vs : List V} {xs : List Dat} : H a = some (.frz o (.tup vs)) → o.dict = none → RpA K mg d N H vs xs → Rp K mg d N H (.ref a) (.ftup xs)
  | dK {a : Addr} {ks : List Key} {vs : List V} {xs : List Dat} : Rd H a (.dK (ks.zip vs)) → ks.length = vs.length → ¬ N a → RpA K mg d N H vs xs → Rp K mg d N H (.ref a) (.dK ks xs)
  | cst (v : V) : Rp K mg d N H v (.cst v)
inductive RpA (K : PySem.W.Frag) (mg : Str → Option Value) (d : Option Addr) (N : Addr → Prop) (H : Hp) : List V → List Dat → Prop
  | nil : RpA K mg d N H [] []
  | cons {v : V} {vs : List V} {x : Dat} {xs : List Dat} : Rp K mg d N H v x → RpA K mg d N H vs xs → RpA K mg d N H (v :: vs) (x :: xs)
end
section
variable {K : PySem.W.Frag} {mg : Str → Option Value} {d : Option Addr} {N N' : Addr → Prop} {H H' : Hp}
theorem sqT_keep {a : Addr} {vs : List V} (k : Keep N H H') (h : SqT K H a vs) : SqT K H' a vs := by
  rcases h with (h | ⟨o, h⟩) | h
  · exact .inl (.inl (k a _ h fun _ => rfl))
  · exact .inl (.inr ⟨o, k a _ h fun _ => rfl⟩)
  · exact .inr h
theorem rd_keep {a : Addr} {u : HO} (k : Keep N H H') (hn : ¬ N a) (h : Rd H a u) (hu : isTb u = false := by rfl) : Rd H' a u := by
  rcases h with h | ⟨o, h⟩
  · exact .inl (k a _ h fun z => absurd (noT z hu) hn)
  · exact .inr ⟨o, k a _ h fun _ => rfl⟩
theorem rd_some {a : Addr} {u : HO} (h : Rd H a u) : H a ≠ none := by
  rcases h with h | ⟨o, h⟩ <;> (rw [h]; intro z; cases z)
mutual
theorem Rp.keep (k : Keep N H H') (hN : ∀ b, N' b → N b ∨ H b = none) : ∀ (x : Dat) (v : V), Rp K mg d N H v x → Rp K mg d N' H' v x
  | .non, _, h => by cases h; exact .non
  | .bl b, _, h => by cases h; exact .bl b
  | .int i, _, h => by cases h; exact .int i
  | .str x, _, h => by cases h; exact .str x
  | .dice, _, h => by
    cases h with
    | dice e => exact .dice e
  | .tup xs, _, h => by
    cases h with
    | tup h1 h2 => exact .tup (k _ _ h1 fun _ => rfl) (RpA.keep k hN xs _ h2)
  | .ctup xs, _, h => by
    cases h with
    | ctup h1 h2 => exact .ctup (sqT_keep k h1) (RpA.keep k hN xs _ h2)
  | .lst xs, _, h => by
    cases h with
    | lst h1 h2 h3 =>
      refine .lst (k _ _ h1 fun z => absurd (noT z rfl) h2) (fun z => ?_) (RpA.keep k hN xs _ h3)
      rcases hN _ z with z | z
      · exact h2 z
      · rw [h1] at z; cases z
  | .obj c ks xs, _, h => by
    cases h with
    | obj hc h1 hl h2 h3 =>
      refine .obj hc (k _ _ h1 fun z => absurd (noT z rfl) h2) hl (fun z => ?_) (RpA.keep k hN xs _ h3)
      rcases hN _ z with z | z
      · exact h2 z
      · rw [h1] at z; cases z
  | .dT ks xs, _, h => by
    cases h with
    | dT h1 hl h2 h3 =>
      refine .dT (rd_keep k h2 h1) hl (fun z => ?_) (RpA.keep k hN xs _ h3)
      rcases hN _ z with z | z
      · exact h2 z
      · exact rd_some h1 z
  | .ftup xs, _, h => by
    cases h with
    | ftup h1 ho h2 => exact .ftup (k _ _ h1 fun _ => rfl) ho (RpA.keep k hN xs _ h2)
  | .dK ks xs, _, h => by
    cases h with
    | dK h1 hl h2 h3 =>
      refine .dK (rd_keep k h2 h1) hl (fun z => ?_) (RpA.keep k hN xs _ h3)
      rcases hN _ z with z | z
      · exact h2 z
      · exact rd_some h1 z
  | .cst v, _, h => by cases h; exact .cst _
theorem RpA.keep (k : Keep N H H') (hN : ∀ b, N' b → N b ∨ H b = none) : ∀ (xs : List Dat) (vs : List V), RpA K mg d N H vs xs → RpA K mg d N' H' vs xs
  | [], _, h => by cases h; exact .nil
  | x :: xs, _, h => by
    cases h with
    | cons h1 h2 => exact .cons (Rp.keep k hN x _ h1) (RpA.keep k hN xs _ h2)
end
theorem RpA.length : ∀ {xs : List Dat} {vs : List V}, RpA K mg d N H vs xs → vs.length = xs.length
  | [], _, h => by cases h; rfl
  | x :: xs, _, h => by
    cases h with
    | cons h1 h2 => simp [RpA.length h2]
theorem RpA.get : ∀ {xs : List Dat} {vs : List V} {i : Nat} {x : Dat}, RpA K mg d N H vs xs → xs[i]? = some x → ∃ v, vs[i]? = some v ∧ Rp K mg d N H v x
  | [], _, _, _, h, e => by simp at e
  | x :: xs, _, 0, y, h, e => by
    cases h with
    | cons h1 h2 =>
      simp at e; subst e
      exact ⟨_, rfl, h1⟩
  | x :: xs, _, i + 1, y, h, e => by
    cases h with
    | cons h1 h2 =>
      obtain ⟨v, e1, e2⟩ := RpA.get (i := i) h2 (by simpa using e)
      exact ⟨v, by simpa using e1, e2⟩
theorem RpA.getV : ∀ {xs : List Dat} {vs : List V} {i : Nat} {v : V}, RpA K mg d N H vs xs → vs[i]? = some v → ∃ x, xs[i]? = some x ∧ Rp K mg d N H v x
  | [], _, _, _, h, e => by cases h; simp at e
  | x :: xs, _, 0, y, h, e => by
    cases h with
    | cons h1 h2 =>
      simp at e; subst e
      exact ⟨_, rfl, h1⟩
  | x :: xs, _, i + 1, y, h, e => by
    cases h with
    | cons h1 h2 =>
      obtain ⟨v, e1, e2⟩ := RpA.getV (i := i) h2 (by simpa using e)
      exact ⟨v, by simpa using e1, e2⟩
theorem RpA.append : ∀ {xs ys : List Dat} {vs ws : List V}, RpA K mg d N H vs xs → RpA K mg d N H ws ys → RpA K mg d N H (vs ++ ws) (xs ++ ys)
  | [], _, _, _, h, g => by cases h; exact g
  | x :: xs, _, _, _, h, g => by
    cases h with
    | cons h1 h2 => exact .cons h1 (RpA.append h2 g)
theorem RpA.drop : ∀ {xs : List Dat} {vs : List V} (n : Nat), RpA K mg d N H vs xs → RpA K mg d N H (vs.drop n) (xs.drop n)
  | _, _, 0, h => h
  | [], _, _ + 1, h => by cases h; exact .nil
  | x :: xs, _, n + 1, h => by
    cases h with
    | cons h1 h2 => exact RpA.drop n h2
theorem RpA.take : ∀ {xs : List Dat} {vs : List V} (n : Nat), RpA K mg d N H vs xs → RpA K mg d N H (vs.take n) (xs.take n)
  | _, _, 0, h => .nil
  | [], _, _ + 1, h => by cases h; exact .nil
  | x :: xs, _, n + 1, h => by
    cases h with
    | cons h1 h2 => exact .cons h1 (RpA.take n h2)
theorem RpA.eraseIdx : ∀ {xs : List Dat} {vs : List V} (n : Nat), RpA K mg d N H vs xs → RpA K mg d N H (vs.eraseIdx n) (xs.eraseIdx n)
  | [], _, _, h => by cases h; exact .nil
  | x :: xs, _, 0, h => by
    cases h with
    | cons h1 h2 => exact h2
  | x :: xs, _, n + 1, h => by
    cases h with
    | cons h1 h2 => exact .cons h1 (RpA.eraseIdx n h2)
end
/-! ### 2. The state of a def's frame -/
/-- what a frame may be filling: a list, a dict whose keys are tuples, an object -/
inductive Kd where
  | lst | dT (ks : List (List Key)) | obj (c : Str) (ks : List Str)
abbrev Lc := Kd × List Dat
def Lc.dat : Lc → Dat
  | (.lst, l) => .lst l
  | (.dT ks, l) => .dT ks l
  | (.obj c ks, l) => .obj c ks l
inductive Co (mg : Str → Option Value) : Kd → List V → HO → Prop
  | lst {vs : List V} : Co mg .lst vs (.lst vs)
  | dT {ks : List (List Key)} {vs : List V} : ks.length = vs.length → Co mg (.dT ks) vs (.dT (ks.zip vs))
  | obj {c : Str} {ks : List Str} {vs : List V} {C dx : Addr} : mg c = some (.ref C) → ks.length = vs.length → Co mg (.obj c ks) vs (.ins C dx (ks.zip vs))
theorem Co.isTb {mg : Str → Option Value} {k : Kd} {vs : List V} {o : HO} (h : Co mg k vs o) : Dl.isTb o = false := by cases h <;> rfl
theorem Co.isEx {mg : Str → Option Value} {k : Kd} {vs : List V} {o : HO} (h : Co mg k vs o) : Dl.isEx o = false := by cases h <;> rfl
theorem Co.isMut {mg : Str → Option Value} {k : Kd} {vs : List V} {o : HO} (h : Co mg k vs o) : isMut o = true := by cases h <;> rfl
/-- the content, and its object -/
def Cn (K : PySem.W.Frag) (mg : Str → Option Value) (d : Option Addr) (N : Addr → Prop) (H : Hp) (vo : List V × HO) (l : Lc) : Prop := Co mg l.1 vo.1 vo.2 ∧ RpA K mg d N H vo.1 l.2
theorem Cn.keep {K : PySem.W.Frag} {mg : Str → Option Value} {d : Option Addr} {N N' : Addr → Prop} {H H' : Hp} (k : Keep N H H') (hN : ∀ b, N' b → N b ∨ H b = none) (l : Lc) (vo : List V × HO) (h : Cn K mg d N H vo l) : Cn K mg d N' H' vo l := ⟨h.1, RpA.keep k hN _ _ h.2⟩
theorem Cn.lst {K : PySem.W.Frag} {mg : Str → Option Value} {d : Option Addr} {N : Addr → Prop} {H : Hp} {vs : List V} {l : List Dat} (h : RpA K mg d N H vs l) : Cn K mg d N H (vs, .lst vs) (.lst, l) := ⟨.lst, h⟩
theorem Cn.isTb {K : PySem.W.Frag} {mg : Str → Option Value} {d : Option Addr} {N : Addr → Prop} {H : Hp} {vo : List V × HO} {l : Lc} (h : Cn K mg d N H vo l) : Dl.isTb vo.2 = false := h.1.isTb
theorem Cn.isEx {K : PySem.W.Frag} {mg : Str → Option Value} {d : Option Addr} {N : Addr → Prop} {H : Hp} {vo : List V × HO} {l : Lc} (h : Cn K mg d N H vo l) : Dl.isEx vo.2 = false := h.1.isEx
theorem Cn.isMut {K : PySem.W.Frag} {mg : Str → Option Value} {d : Option Addr} {N : Addr → Prop} {H : Hp} {vo : List V × HO} {l : Lc} (h : Cn K mg d N H vo l) : Dl.isMut vo.2 = true := h.1.isMut
def Kd.isObj : Kd → Bool
  | .obj _ _ => true
  | _ => false
inductive Slot where
  | un | val (x : Dat) | own (l : Lc)
abbrev Ev := List Slot
abbrev isD (d : Option Addr) : Addr → Prop := fun b => d = some b
def DiceAt (d : Option Addr) (H : Hp) (δ : List Int) : Prop := ∀ a, d = some a → H a = some (.lst (δ.map V.int))
structure Fm where
  d : Option Addr
  M : Addr → Prop
  H0 : Hp
  gv : List V
  gx : List Dat
  go : List (Addr × List Dat)
  self : Addr → Prop
/-- the first slot's object stands where it stood -/
def SF (q : Fm) (σ : St) (env : Ev) : Prop := ∀ (l : Lc) (a : Addr), env[0]? = some (Slot.own l) → l.1.isObj = true → σ[0]? = some (some (V.ref a)) → q.self a
/-- what may not be reached by data: what the callers hold, the lists that are being filled -/
def NN (q : Fm) (σ : St) (env : Ev) (b : Addr) : Prop := q.M b ∨ (∃ l, (b, l) ∈ q.go) ∨ ∃ (i : Nat) (l : Lc), env[i]? = some (Slot.own l) ∧ σ[i]? = some (some (V.ref b))
structure Ok (K : PySem.W.Frag) (mg : Str → Option Value) (q : Fm) (σ : St) (H : Hp) (env : Ev) (δ : List Int) : Prop where
  kp : Keep (isD q.d) q.H0 H
  dc : DiceAt q.d H δ
  dm : ∀ a, q.d = some a → q.M a
  md : ∀ b, q.M b → q.H0 b ≠ none
  ln : σ.length = env.length
  sf : SF q σ env
  vl : ∀ (i : Nat) (x : Dat), env[i]? = some (Slot.val x) → ∃ v, σ[i]? = some (some v) ∧ Rp K mg q.d (NN q σ env) H v x
  ow : ∀ (i : Nat) (l : Lc), env[i]? = some (Slot.own l) → ∃ (a : Addr) (vs : List V × HO), σ[i]? = some (some (V.ref a)) ∧ q.H0 a = none ∧ H a = some vs.2 ∧ Cn K mg q.d (NN q σ env) H vs l
  ds : ∀ (i j : Nat) (l l' : Lc) (a : Addr), env[i]? = some (Slot.own l) → env[j]? = some (Slot.own l') → σ[i]? = some (some (V.ref a)) → σ[j]? = some (some (V.ref a)) → i = j
  gh : RpA K mg q.d (NN q σ env) H q.gv q.gx
  go : ∀ (a : Addr) (l : List Dat), (a, l) ∈ q.go → q.H0 a = none ∧ (∃ vs : List V, H a = some (.lst vs) ∧ RpA K mg q.d (NN q σ env) H vs l) ∧ ∀ (i : Nat) (l' : Lc), env[i]? = some (Slot.own l') → σ[i]? ≠ some (some (V.ref a))
section
variable {K : PySem.W.Frag} {mg : Str → Option Value} {q : Fm} {H H' : Hp} {σ : St} {env : Ev} {δ δ' : List Int}
theorem Ok.mdH (k : Ok K mg q σ H env δ) {b : Addr} (hb : q.M b) : H b ≠ none := fun e => by
  cases z : q.H0 b with
  | none => exact k.md b hb z
  | some o => exact k.kp.there z (fun hd z => by
      have := k.dc b hd
      rw [z] at this; cases this) e
theorem Ok.nn (k : Ok K mg q σ H env δ) {b : Addr} (hb : NN q σ env b) : H b ≠ none := by
  rcases hb with hb | ⟨l, hl⟩ | ⟨i, l, h1, h2⟩
  · exact k.mdH hb
  · obtain ⟨_, ⟨vs, e, _⟩, _⟩ := k.go b l hl
    rw [e]
    intro z; cases z
  · obtain ⟨a, vs, e1, _, e2, _⟩ := k.ow i l h1
    rw [h2] at e1
    cases e1
    rw [e2]
    intro z; cases z
/-- a new address is reached by nothing -/
theorem Ok.free (k : Ok K mg q σ H env δ) {p : Addr} (hp : H p = none) : ¬ NN q σ env p := fun z => k.nn z hp
theorem Ok.free0 (k : Ok K mg q σ H env δ) {p : Addr} (hp : H p = none) : q.H0 p = none := by
  cases z : q.H0 p with
  | none => rfl
  | some o => exact absurd hp (k.kp.there z fun hd z => by
      have := k.dc p hd
      rw [z] at this; cases this)
/-- an expression's heap: all stands but the dice -/
theorem Ok.step (k : Ok K mg q σ H env δ) (h : Keep (isD q.d) H H') (hd : DiceAt q.d H' δ') : Ok K mg q σ H' env δ' := by
  have hw : Keep (NN q σ env) H H' := h.weak fun b z => .inl (k.dm b z)
  refine ⟨k.kp.trans h, hd, k.dm, k.md, k.ln, k.sf, fun i x e => ?_, fun i l e => ?_, k.ds, RpA.keep hw (fun b z => .inl z) _ _ k.gh, fun a l e => ?_⟩
  · obtain ⟨v, e1, r⟩ := k.vl i x e
    exact ⟨v, e1, Rp.keep hw (fun b z => .inl z) _ _ r⟩
  · obtain ⟨a, vs, e1, e2, e3, r⟩ := k.ow i l e
    refine ⟨a, vs, e1, e2, h a _ e3 fun z => ?_, Cn.keep hw (fun b z => .inl z) _ _ r⟩
    exact absurd e2 (k.md a (k.dm a (noT z (Cn.isTb r))))
  · obtain ⟨e1, ⟨vs, e3, r⟩, e4⟩ := k.go a l e
    refine ⟨e1, ⟨vs, h a _ e3 fun z => ?_, RpA.keep hw (fun b z => .inl z) _ _ r⟩, e4⟩
    exact absurd e1 (k.md a (k.dm a (noT z rfl)))
/-- the heap grows -/
theorem Ok.grow (k : Ok K mg q σ H env δ) (h : Same H H') : Ok K mg q σ H' env δ :=
  k.step (Keep.of_same h) fun a e => h a _ (k.dc a e)
/-- a slot's list -/
theorem Ok.owL (k : Ok K mg q σ H env δ) (i : Nat) (l : List Dat) (h : env[i]? = some (Slot.own (.lst, l))) : ∃ (a : Addr) (vs : List V), σ[i]? = some (some (V.ref a)) ∧ q.H0 a = none ∧ H a = some (.lst vs) ∧ RpA K mg q.d (NN q σ env) H vs l := by
  obtain ⟨a, ⟨vs, o⟩, e1, e2, e3, co, r⟩ := k.ow i _ h
  have co' : Co mg .lst vs o := co
  cases co'
  exact ⟨a, vs, e1, e2, e3, r⟩
theorem Ok.dn (k : Ok K mg q σ H env δ) : ∀ a, q.d = some a → NN q σ env a := fun a e => .inl (k.dm a e)
end
section
variable {K : PySem.W.Frag} {mg : Str → Option Value} {d : Option Addr} {N N' : Addr → Prop} {H H' : Hp}
/-- weak reading: the value itself may be a list that is being filled -/
def RpB (K : PySem.W.Frag) (mg : Str → Option Value) (d : Option Addr) (N : Addr → Prop) (H : Hp) (v : V) : Dat → Prop
  | .lst xs => ∃ a vs, v = .ref a ∧ H a = some (.lst vs) ∧ d ≠ some a ∧ RpA K mg d N H vs xs
  | .dT ks xs => ∃ a vs, v = .ref a ∧ Rd H a (.dT (ks.zip vs)) ∧ ks.length = vs.length ∧ d ≠ some a ∧ RpA K mg d N H vs xs
  | .obj c ks xs => ∃ a vs C dx, v = .ref a ∧ mg c = some (.ref C) ∧ H a = some (.ins C dx (ks.zip vs)) ∧ ks.length = vs.length ∧ d ≠ some a ∧ RpA K mg d N H vs xs
  | x => Rp K mg d N H v x
theorem Rp.weak {v : V} {x : Dat} (hd : ∀ a, d = some a → N a) (h : Rp K mg d N H v x) : RpB K mg d N H v x := by
  cases x with
  | lst xs =>
    cases h with
    | lst h1 h2 h3 => exact ⟨_, _, rfl, h1, fun z => h2 (hd _ z), h3⟩
  | dT ks xs =>
    cases h with
    | dT h1 hl h2 h3 => exact ⟨_, _, rfl, h1, hl, fun z => h2 (hd _ z), h3⟩
  | obj c ks xs =>
    cases h with
    | obj hc h1 hl h2 h3 => exact ⟨_, _, _, _, rfl, hc, h1, hl, fun z => h2 (hd _ z), h3⟩
  | _ => exact h
theorem RpB.keep {v : V} {x : Dat} (hd : ∀ a, d = some a → N a) (k : Keep (isD d) H H') (hN : ∀ b, N' b → N b ∨ H b = none) (h : RpB K mg d N H v x) : RpB K mg d N' H' v x := by
  have hw : Keep N H H' := k.weak hd
  cases x with
  | lst xs =>
    obtain ⟨a, vs, e1, e2, e3, e4⟩ := h
    exact ⟨a, vs, e1, k a _ e2 fun z => absurd (noT z rfl) e3, e3, RpA.keep hw hN _ _ e4⟩
  | non => exact Rp.keep hw hN _ _ h
  | bl => exact Rp.keep hw hN _ _ h
  | int => exact Rp.keep hw hN _ _ h
  | str => exact Rp.keep hw hN _ _ h
  | tup => exact Rp.keep hw hN _ _ h
  | ctup => exact Rp.keep hw hN _ _ h
  | dice => exact Rp.keep hw hN _ _ h
  | ftup => exact Rp.keep hw hN _ _ h
  | dK => exact Rp.keep hw hN _ _ h
  | cst => exact Rp.keep hw hN _ _ h
  | obj c ks xs =>
    obtain ⟨a, vs, C, dx, e1, e2, e3, e4, e5, e6⟩ := h
    exact ⟨a, vs, C, dx, e1, e2, k a _ e3 fun z => absurd (noT z rfl) e5, e4, e5, RpA.keep hw hN _ _ e6⟩
  | dT ks xs =>
    obtain ⟨a, vs, e1, e2, e3, e4, e5⟩ := h
    exact ⟨a, vs, e1, rd_keep k e4 e2, e3, e4, RpA.keep hw hN _ _ e5⟩
/-- several, weakly -/
def RpBs (K : PySem.W.Frag) (mg : Str → Option Value) (d : Option Addr) (N : Addr → Prop) (H : Hp) : List V → List Dat → Prop
  | [], [] => True
  | v :: vs, x :: xs => RpB K mg d N H v x ∧ RpBs K mg d N H vs xs
  | _, _ => False
theorem RpA.weak (hd : ∀ a, d = some a → N a) : ∀ {vs : List V} {xs : List Dat}, RpA K mg d N H vs xs → RpBs K mg d N H vs xs
  | [], _, h => by cases h; trivial
  | v :: vs, _, h => by
    cases h with
    | cons h1 h2 => exact ⟨h1.weak hd, RpA.weak hd h2⟩
end
end Dl

namespace Dl
open PySem PySem.Spec L2
/-! ### 3. Expressions -/
abbrev E := Ev → List Int → Option (Dat × List Int)
abbrev ET := Ev → List Int → Option (Bool × List Int)
abbrev EA := Ev → List Int → Option (List Dat × List Int)
/-- weak, strong, a test, arguments strong and weak -/
def RE (K : PySem.W.Frag) (mg : Str → Option Value) (t : TE) (f : E) : Prop := ∀ (q : Fm) (σ : St) (H : Hp) (env : Ev) (δ : List Int) (x : Dat) (δ' : List Int) (Q : VK), Ok K mg q σ H env δ → f env δ = some (x, δ') →
  (∀ v H', Keep (isD q.d) H H' → Ok K mg q σ H' env δ' → RpB K mg q.d (NN q σ env) H' v x → Q v H') → t σ H Q
def RS (K : PySem.W.Frag) (mg : Str → Option Value) (t : TE) (f : E) : Prop := ∀ (q : Fm) (σ : St) (H : Hp) (env : Ev) (δ : List Int) (x : Dat) (δ' : List Int) (Q : VK), Ok K mg q σ H env δ → f env δ = some (x, δ') →
  (∀ v H', Keep (isD q.d) H H' → Ok K mg q σ H' env δ' → Rp K mg q.d (NN q σ env) H' v x → Q v H') → t σ H Q
def RT (K : PySem.W.Frag) (mg : Str → Option Value) (t : TT) (f : ET) : Prop := ∀ (q : Fm) (σ : St) (H : Hp) (env : Ev) (δ : List Int) (x : Bool) (δ' : List Int) (Q : Bool → Hp → Prop), Ok K mg q σ H env δ → f env δ = some (x, δ') →
  (∀ H', Keep (isD q.d) H H' → Ok K mg q σ H' env δ' → Q x H') → t σ H Q
def RA (K : PySem.W.Frag) (mg : Str → Option Value) (t : TA) (f : EA) : Prop := ∀ (q : Fm) (σ : St) (H : Hp) (env : Ev) (δ : List Int) (x : List Dat) (δ' : List Int) (Q : List V → Hp → Prop), Ok K mg q σ H env δ → f env δ = some (x, δ') →
  (∀ v H', Keep (isD q.d) H H' → Ok K mg q σ H' env δ' → RpA K mg q.d (NN q σ env) H' v x → Q v H') → t σ H Q
def RAB (K : PySem.W.Frag) (mg : Str → Option Value) (t : TA) (f : EA) : Prop := ∀ (q : Fm) (σ : St) (H : Hp) (env : Ev) (δ : List Int) (x : List Dat) (δ' : List Int) (Q : List V → Hp → Prop), Ok K mg q σ H env δ → f env δ = some (x, δ') →
  (∀ v H', Keep (isD q.d) H H' → Ok K mg q σ H' env δ' → RpBs K mg q.d (NN q σ env) H' v x → Q v H') → t σ H Q
structure DE (X : Cx) (e : Expr) (t : TE) (f : E) : Prop where
  p : PE X e t
  r : RE X.K X.mg t f
structure DS (X : Cx) (e : Expr) (t : TE) (f : E) : Prop where
  p : PE X e t
  r : RS X.K X.mg t f
structure DT (X : Cx) (e : Expr) (t : TT) (f : ET) : Prop where
  p : PT X e t
  r : RT X.K X.mg t f
structure DA (X : Cx) (es : List Expr) (t : TA) (f : EA) : Prop where
  p : PA X es t
  r : RA X.K X.mg t f
structure DAB (X : Cx) (es : List Expr) (t : TA) (f : EA) : Prop where
  p : PA X es t
  r : RAB X.K X.mg t f
section
variable {X : Cx} {e a b : Expr} {es : List Expr} {t ta tb : TE} {f g : E} {pos : Pos}
theorem DS.w (h : DS X e t f) : DE X e t f := ⟨h.p, fun q σ H env δ x δ' Q k ef kq => h.r q σ H env δ x δ' Q k ef fun v H' k1 k2 r => kq v H' k1 k2 (r.weak k.dn)⟩
/-! names, constants -/
def eVar (i : Nat) : E := fun env δ => match env[i]? with
  | some (.val x) => some (x, δ)
  | _ => none
def eVarB (i : Nat) : E := fun env δ => match env[i]? with
  | some (.val x) => some (x, δ)
  | some (.own l) => some (Lc.dat l, δ)
  | _ => none
theorem re_var {K : PySem.W.Frag} {mg : Str → Option Value} (i : Nat) : RS K mg (tVar i) (eVar i) := by
  intro q σ H env δ x δ' Q k ef kq
  unfold eVar at ef
  split at ef
  · rename_i y hy
    cases ef
    obtain ⟨v, e1, r⟩ := k.vl i _ hy
    exact ⟨v, e1, kq v H .refl k r⟩
  · cases ef
theorem re_varB {K : PySem.W.Frag} {mg : Str → Option Value} (i : Nat) : RE K mg (tVar i) (eVarB i) := by
  intro q σ H env δ x δ' Q k ef kq
  unfold eVarB at ef
  split at ef
  · rename_i y hy
    cases ef
    obtain ⟨v, e1, r⟩ := k.vl i _ hy
    exact ⟨v, e1, kq v H .refl k (r.weak k.dn)⟩
  · rename_i l hy
    cases ef
    obtain ⟨a, vs, e1, e2, e3, r⟩ := k.ow i _ hy
    refine ⟨.ref a, e1, kq _ H .refl k ?_⟩
    obtain ⟨kd, l⟩ := l
    obtain ⟨vs, o⟩ := vs
    obtain ⟨co, r⟩ := r
    have co : Co mg kd vs o := co
    have e3 : H a = some o := e3
    have r : RpA K mg q.d (NN q σ env) H vs l := r
    have nd : q.d ≠ some a := fun z => k.md a (k.dm a z) e2
    cases co with
    | lst => exact ⟨a, vs, rfl, e3, nd, r⟩
    | dT hl => exact ⟨a, vs, rfl, .of e3, hl, nd, r⟩
    | obj hc hl => exact ⟨a, vs, _, _, rfl, hc, e3, hl, nd, r⟩
  · cases ef
theorem d_var (i : Nat) (h : PE X e (tVar i)) : DS X e (tVar i) (eVar i) := ⟨h, re_var i⟩
theorem d_varB (i : Nat) (h : PE X e (tVar i)) : DE X e (tVar i) (eVarB i) := ⟨h, re_varB i⟩
def eC (x : Dat) : E := fun _ δ => some (x, δ)
theorem re_c {K : PySem.W.Frag} {mg : Str → Option Value} {v : V} {x : Dat} (h : ∀ d N H, Rp K mg d N H v x) : RS K mg (tC v) (eC x) := by
  intro q σ H env δ y δ' Q k ef kq
  cases ef
  exact kq v H .refl k (h _ _ _)
theorem d_int {i j} : DS X (.Constant (.int i) j pos) (tC (.int i)) (eC (.int i)) := ⟨pe_int, re_c fun _ _ _ => .int i⟩
theorem d_bl {i j} : DS X (.Constant (.bool i) j pos) (tC (.bl i)) (eC (.bl i)) := ⟨pe_bl, re_c fun _ _ _ => .bl i⟩
theorem d_str {i j} : DS X (.Constant (.str i) j pos) (tC (.str i)) (eC (.str i)) := ⟨pe_str, re_c fun _ _ _ => .str i⟩
theorem d_non {j} : DS X (.Constant .none j pos) (tC .non) (eC .non) := ⟨pe_non, re_c fun _ _ _ => .non⟩
/-- a constant of the module -/
theorem d_glob {x : Str} {v : V} {u : Value} {y : Dat} (hg : Gl X x) (hm : X.mg x = some u) (r : RelV v u) (h : ∀ d N H, Rp X.K X.mg d N H v y) (hd : (x == ("__debug__" : Str)) = false := by decide) : DS X (.Name x pos) (tC v) (eC y) :=
  ⟨pe_glob hg hm r hd, re_c h⟩
/-! operators -/
def eOp (F : Dat → Dat → Option Dat) (f g : E) : E := fun env δ => (f env δ).bind fun r => (g env r.2).bind fun u => (F r.1 u.1).map fun z => (z, u.2)
/-- an operator's rule by data -/
def RefO (K : PySem.W.Frag) (mg : Str → Option Value) (r : R2) (F : Dat → Dat → Option Dat) : Prop := ∀ (d : Option Addr) (N : Addr → Prop) (H : Hp) (v w : V) (x y z : Dat) (Q : VK), (∀ a, d = some a → N a) → (∀ b, N b → H b ≠ none) →
  RpB K mg d N H v x → RpB K mg d N H w y → F x y = some z → (∀ u H', Same H H' → Rp K mg d N H' u z → Q u H') → r v w H Q
theorem re_op {K : PySem.W.Frag} {mg : Str → Option Value} {r : R2} {F : Dat → Dat → Option Dat} (hr : RefO K mg r F) (ha : RE K mg ta f) (hb : RE K mg tb g) : RS K mg (tOp r ta tb) (eOp F f g) := by
  intro q σ H env δ z δ' Q k ef kq
  unfold eOp at ef
  cases e1 : f env δ with
  | none => rw [e1] at ef; cases ef
  | some r1 =>
    obtain ⟨x, δ1⟩ := r1
    rw [e1] at ef
    cases e2 : g env δ1 with
    | none => simp [e2] at ef
    | some r2 =>
      obtain ⟨y, δ2⟩ := r2
      simp only [Option.bind_some, e2] at ef
      cases e3 : F x y with
      | none => simp [e3] at ef
      | some z' =>
        simp only [e3, Option.map_some, Option.some.injEq, Prod.mk.injEq] at ef
        obtain ⟨rfl, rfl⟩ := ef
        refine ha q σ H env δ x δ1 _ k e1 fun v H1 k1 o1 r1 => ?_
        refine hb q σ H1 env δ1 y δ2 _ o1 e2 fun w H2 k2 o2 r2 => ?_
        refine hr q.d (NN q σ env) H2 v w x y z' Q o2.dn (fun b => o2.nn) (r1.keep k.dn k2 fun b z => .inl z) r2 e3 fun u H3 s3 r3 => ?_
        exact kq u H3 ((k1.trans k2).trans (.of_same s3)) (o2.grow s3) r3
theorem d_op {op : Operator} {r : R2} {F : Dat → Dat → Option Dat} (ho : OpR X (binaryOp op) r) (hr : RefO X.K X.mg r F) (ha : DE X a ta f) (hb : DE X b tb g) : DS X (.BinOp a op b pos) (tOp r ta tb) (eOp F f g) :=
  ⟨pe_op ho ha.p hb.p, re_op hr ha.r hb.r⟩
theorem d_cmp {op : CmpOp} {r : R2} {F : Dat → Dat → Option Dat} (ho : OpR X (compareOp op) r) (hr : RefO X.K X.mg r F) (ha : DE X a ta f) (hb : DE X b tb g) (hm : behindInMarks op b = false) : DS X (.Compare a [op] [b] pos) (tOp r ta tb) (eOp F f g) :=
  ⟨pe_cmpR ho ha.p hb.p hm, re_op hr ha.r hb.r⟩
/-- a value that is a truth, as a test -/
def eTest (f : E) : ET := fun env δ => (f env δ).bind fun r => match r.1 with
  | .bl k => some (k, r.2)
  | _ => none
theorem rt_test {K : PySem.W.Frag} {mg : Str → Option Value} (ha : RE K mg ta f) : RT K mg (tTest ta) (eTest f) := by
  intro q σ H env δ z δ' Q k ef kq
  unfold eTest at ef
  cases e1 : f env δ with
  | none => rw [e1] at ef; cases ef
  | some r1 =>
    obtain ⟨x, δ1⟩ := r1
    rw [e1] at ef
    cases x with
    | bl c =>
      simp only [Option.bind_some, Option.some.injEq, Prod.mk.injEq] at ef
      obtain ⟨rfl, rfl⟩ := ef
      refine ha q σ H env δ (.bl c) δ1 _ k e1 fun v H1 k1 o1 r1 => ?_
      cases r1
      exact ⟨c, rfl, kq H1 k1 o1⟩
    | _ => cases ef
theorem d_tcmp {op : CmpOp} {r : R2} {F : Dat → Dat → Option Dat} (ho : OpR X (compareOp op) r) (hr : RefO X.K X.mg r F) (ha : DE X a ta f) (hb : DE X b tb g) (hm : behindInMarks op b = false) : DT X (.Compare a [op] [b] pos) (tTest (tOp r ta tb)) (eTest (eOp F f g)) :=
  ⟨pt_cmpR ho ha.p hb.p hm, rt_test fun q σ H env δ x δ' Q k ef kq => (re_op hr ha.r hb.r) q σ H env δ x δ' Q k ef fun v H' k1 k2 r => kq v H' k1 k2 (r.weak k.dn)⟩
theorem d_tval (ha : DE X a ta f) (he : ∀ whole, isTrue a X.env whole = (do let v ← whole; standAt a.pos; holding [v] (truthy v)) := by intro _; rfl) : DT X a (tB ta) (eTest f) := by
  refine ⟨pt_val ha.p he, fun q σ H env δ x δ' Q k ef kq => ?_⟩
  exact rt_test ha.r q σ H env δ x δ' Q k ef kq
end
end Dl

namespace Dl
open PySem PySem.Spec L2
section
variable {X : Cx} {e a b c : Expr} {es rest : List Expr} {t ta tb tc : TE} {f g h : E} {pos : Pos} {tA tB' : TT} {fA fB : ET} {K : PySem.W.Frag} {mg : Str → Option Value}
/-! and, or, not -/
def eAndT (f g : ET) : ET := fun env δ => (f env δ).bind fun r => if r.1 = true then g env r.2 else some (false, r.2)
def eOrT (f g : ET) : ET := fun env δ => (f env δ).bind fun r => if r.1 = true then some (true, r.2) else g env r.2
def eNotT (f : ET) : ET := fun env δ => (f env δ).map fun r => (!r.1, r.2)
theorem rt_and (ha : RT K mg tA fA) (hb : RT K mg tB' fB) : RT K mg (tAnd tA tB') (eAndT fA fB) := by
  intro q σ H env δ z δ' Q k ef kq
  unfold eAndT at ef
  cases e1 : fA env δ with
  | none => rw [e1] at ef; cases ef
  | some r1 =>
    obtain ⟨x, δ1⟩ := r1
    rw [e1] at ef
    refine ha q σ H env δ x δ1 _ k e1 fun H1 k1 o1 => ?_
    cases x with
    | true => exact hb q σ H1 env δ1 z δ' Q o1 ef fun H2 k2 o2 => kq H2 (k1.trans k2) o2
    | false =>
      cases ef
      exact kq H1 k1 o1
theorem rt_or (ha : RT K mg tA fA) (hb : RT K mg tB' fB) : RT K mg (tOr tA tB') (eOrT fA fB) := by
  intro q σ H env δ z δ' Q k ef kq
  unfold eOrT at ef
  cases e1 : fA env δ with
  | none => rw [e1] at ef; cases ef
  | some r1 =>
    obtain ⟨x, δ1⟩ := r1
    rw [e1] at ef
    refine ha q σ H env δ x δ1 _ k e1 fun H1 k1 o1 => ?_
    cases x with
    | false => exact hb q σ H1 env δ1 z δ' Q o1 ef fun H2 k2 o2 => kq H2 (k1.trans k2) o2
    | true =>
      cases ef
      exact kq H1 k1 o1
theorem rt_not (ha : RT K mg tA fA) : RT K mg (tNot tA) (eNotT fA) := by
  intro q σ H env δ z δ' Q k ef kq
  unfold eNotT at ef
  cases e1 : fA env δ with
  | none => rw [e1] at ef; cases ef
  | some r1 =>
    obtain ⟨x, δ1⟩ := r1
    rw [e1] at ef
    cases ef
    exact ha q σ H env δ x δ1 _ k e1 fun H1 k1 o1 => kq H1 k1 o1
/-- a chain of and, or -/
structure DW (X : Cx) (e : Expr) (t : TT) (f : ET) : Prop where
  p : PW X e t
  r : RT X.K X.mg t f
theorem d_and1 (ha : DT X a tA fA) : DW X (.BoolOp .And [a] pos) tA fA := ⟨pw_and1 ha.p, ha.r⟩
theorem d_or1 (ha : DT X a tA fA) : DW X (.BoolOp .Or [a] pos) tA fA := ⟨pw_or1 ha.p, ha.r⟩
theorem d_and (ha : DT X a tA fA) (hb : DW X (.BoolOp .And (b :: rest) pos) tB' fB) : DW X (.BoolOp .And (a :: b :: rest) pos) (tAnd tA tB') (eAndT fA fB) := ⟨pw_and ha.p hb.p, rt_and ha.r hb.r⟩
theorem d_or (ha : DT X a tA fA) (hb : DW X (.BoolOp .Or (b :: rest) pos) tB' fB) : DW X (.BoolOp .Or (a :: b :: rest) pos) (tOr tA tB') (eOrT fA fB) := ⟨pw_or ha.p hb.p, rt_or ha.r hb.r⟩
theorem DW.dt (h : DW X e tA fA) : DT X e tA fA := ⟨h.p.pt, h.r⟩
theorem d_tnot (ha : DT X a tA fA) : DT X (.UnaryOp .Not a pos) (tNot tA) (eNotT fA) := ⟨pt_not ha.p, rt_not ha.r⟩
/-! the same as values (truths alone) -/
def eAnd (f g : E) : E := fun env δ => (f env δ).bind fun r => match r.1 with
  | .bl true => g env r.2
  | .bl false => some (.bl false, r.2)
  | _ => none
def eOr (f g : E) : E := fun env δ => (f env δ).bind fun r => match r.1 with
  | .bl true => some (.bl true, r.2)
  | .bl false => g env r.2
  | _ => none
def eNot (f : E) : E := fun env δ => (f env δ).bind fun r => match r.1 with
  | .bl k => some (.bl (!k), r.2)
  | _ => none
theorem re_and (ha : RE K mg ta f) (hb : RS K mg tb g) : RS K mg (tAndV ta tb) (eAnd f g) := by
  intro q σ H env δ z δ' Q k ef kq
  unfold eAnd at ef
  cases e1 : f env δ with
  | none => rw [e1] at ef; cases ef
  | some r1 =>
    obtain ⟨x, δ1⟩ := r1
    rw [e1] at ef
    cases x with
    | bl c =>
      refine ha q σ H env δ (.bl c) δ1 _ k e1 fun v H1 k1 o1 r1 => ?_
      cases r1
      refine ⟨c, rfl, ?_⟩
      cases c with
      | true => exact hb q σ H1 env δ1 z δ' Q o1 ef fun v H2 k2 o2 r2 => kq v H2 (k1.trans k2) o2 r2
      | false =>
        cases ef
        exact kq _ H1 k1 o1 (.bl false)
    | _ => cases ef
theorem re_or (ha : RE K mg ta f) (hb : RS K mg tb g) : RS K mg (tOrV ta tb) (eOr f g) := by
  intro q σ H env δ z δ' Q k ef kq
  unfold eOr at ef
  cases e1 : f env δ with
  | none => rw [e1] at ef; cases ef
  | some r1 =>
    obtain ⟨x, δ1⟩ := r1
    rw [e1] at ef
    cases x with
    | bl c =>
      refine ha q σ H env δ (.bl c) δ1 _ k e1 fun v H1 k1 o1 r1 => ?_
      cases r1
      refine ⟨c, rfl, ?_⟩
      cases c with
      | false => exact hb q σ H1 env δ1 z δ' Q o1 ef fun v H2 k2 o2 r2 => kq v H2 (k1.trans k2) o2 r2
      | true =>
        cases ef
        exact kq _ H1 k1 o1 (.bl true)
    | _ => cases ef
theorem re_not (ha : RE K mg ta f) : RS K mg (tNotV ta) (eNot f) := by
  intro q σ H env δ z δ' Q k ef kq
  unfold eNot at ef
  cases e1 : f env δ with
  | none => rw [e1] at ef; cases ef
  | some r1 =>
    obtain ⟨x, δ1⟩ := r1
    rw [e1] at ef
    cases x with
    | bl c =>
      refine ha q σ H env δ (.bl c) δ1 _ k e1 fun v H1 k1 o1 r1 => ?_
      cases r1
      cases ef
      exact ⟨c, rfl, kq _ H1 k1 o1 (.bl _)⟩
    | _ => cases ef
theorem d_one {op} (ha : DS X a ta f) : DS X (.BoolOp op [a] pos) ta f := ⟨pe_one ha.p, ha.r⟩
theorem d_vand (ha : DE X a ta f) (hb : DS X (.BoolOp .And (b :: rest) pos) tb g) : DS X (.BoolOp .And (a :: b :: rest) pos) (tAndV ta tb) (eAnd f g) := ⟨pe_and ha.p hb.p, re_and ha.r hb.r⟩
theorem d_vor (ha : DE X a ta f) (hb : DS X (.BoolOp .Or (b :: rest) pos) tb g) : DS X (.BoolOp .Or (a :: b :: rest) pos) (tOrV ta tb) (eOr f g) := ⟨pe_or ha.p hb.p, re_or ha.r hb.r⟩
theorem d_vnot (ha : DE X a ta f) : DS X (.UnaryOp .Not a pos) (tNotV ta) (eNot f) := ⟨pe_not ha.p, re_not ha.r⟩
/-! a conditional expression -/
def eIf (c : ET) (f g : E) : E := fun env δ => (c env δ).bind fun r => if r.1 = true then f env r.2 else g env r.2
theorem re_if (hc : RT K mg tA fA) (ha : RS K mg ta f) (hb : RS K mg tb g) : RS K mg (tIf tA ta tb) (eIf fA f g) := by
  intro q σ H env δ z δ' Q k ef kq
  unfold eIf at ef
  cases e1 : fA env δ with
  | none => rw [e1] at ef; cases ef
  | some r1 =>
    obtain ⟨x, δ1⟩ := r1
    rw [e1] at ef
    refine hc q σ H env δ x δ1 _ k e1 fun H1 k1 o1 => ?_
    cases x with
    | true => exact ha q σ H1 env δ1 z δ' Q o1 ef fun v H2 k2 o2 r2 => kq v H2 (k1.trans k2) o2 r2
    | false => exact hb q σ H1 env δ1 z δ' Q o1 ef fun v H2 k2 o2 r2 => kq v H2 (k1.trans k2) o2 r2
theorem d_ifExp (hc : DT X c tA fA) (ha : DS X a ta f) (hb : DS X b tb g) : DS X (.IfExp c a b pos) (tIf tA ta tb) (eIf fA f g) := ⟨pe_ifExp hc.p ha.p hb.p, re_if hc.r ha.r hb.r⟩
/-! truth of a value -/
def truD : Dat → Option Bool
  | .non => some false
  | .bl k => some k
  | .int i => some (i != 0)
  | .str x => if x.length < 1000000 then some ((x.length : Int) != 0) else none
  | .lst xs => some (!xs.isEmpty)
  | .tup xs => some (!xs.isEmpty)
  | _ => none
def eTru (f : E) : ET := fun env δ => (f env δ).bind fun r => (truD r.1).map fun k => (k, r.2)
theorem le_line {n : Nat} (h : n < 1000000) : n ≤ sizeLine := by rw [sizeLine_eq]; omega
theorem lt_line {n : Nat} (h : n < 1000000) : n < sizeLine := by rw [sizeLine_eq]; omega
theorem RpA.isEmpty {d : Option Addr} {N : Addr → Prop} {H : Hp} {vs : List V} {xs : List Dat} (h : RpA K mg d N H vs xs) : vs.isEmpty = xs.isEmpty := by
  cases h <;> rfl
theorem truV_of {d : Option Addr} {N : Addr → Prop} {H : Hp} {v : V} {x : Dat} {k : Bool} (r : RpB K mg d N H v x) (e : truD x = some k) : TruV K v H k := by
  cases x with
  | non => cases r; cases e; rfl
  | bl b => cases r; cases e; rfl
  | int i => cases r; cases e; rfl
  | str y =>
    cases r
    have e' : (if y.length < 1000000 then some ((y.length : Int) != 0) else none) = some k := e
    split at e'
    · rename_i hl
      cases e'
      exact ⟨le_line hl, rfl⟩
    · cases e'
  | lst xs =>
    obtain ⟨a, vs, rfl, e2, _, r4⟩ := r
    cases e
    exact .inl ⟨vs, .of e2, by rw [r4.isEmpty]⟩
  | tup xs =>
    cases r with
    | tup h1 h2 =>
      cases e
      exact .inr (.inl ⟨_, .of h1, by rw [h2.isEmpty]⟩)
  | _ => cases e
theorem d_truth (ha : DE X a ta f) (he : ∀ whole, isTrue a X.env whole = (do let v ← whole; standAt a.pos; holding [v] (truthy v)) := by intro _; rfl) : DT X a (fun σ H Q => ta σ H fun x H' => ∃ k, TruV X.K x H' k ∧ Q k H') (eTru f) := by
  refine ⟨pt_truth ha.p he, fun q σ H env δ z δ' Q k ef kq => ?_⟩
  unfold eTru at ef
  cases e1 : f env δ with
  | none => rw [e1] at ef; cases ef
  | some r1 =>
    obtain ⟨x, δ1⟩ := r1
    rw [e1] at ef
    cases e2 : truD x with
    | none => simp [e2] at ef
    | some kk =>
      simp only [Option.bind_some, e2, Option.map_some, Option.some.injEq, Prod.mk.injEq] at ef
      obtain ⟨rfl, rfl⟩ := ef
      exact ha.r q σ H env δ x δ1 _ k e1 fun v H1 k1 o1 r1 => ⟨kk, truV_of r1 e2, kq H1 k1 o1⟩
/-! arguments -/
def aNil : EA := fun _ δ => some ([], δ)
def aCons (f : E) (g : EA) : EA := fun env δ => (f env δ).bind fun r => (g env r.2).map fun u => (r.1 :: u.1, u.2)
variable {tr : TA} {fr : EA}
theorem d_anil : DA X [] tNil aNil := ⟨pa_nil, fun q σ H env δ x δ' Q k ef kq => by
  cases ef
  exact kq [] H .refl k .nil⟩
theorem d_acons (ha : DS X e ta f) (hr : DA X es tr fr) (hs : starEach (e :: es) X.env = (false, eval e X.env) :: starEach es X.env := by rfl) : DA X (e :: es) (tCons ta tr) (aCons f fr) := by
  refine ⟨pa_cons ha.p hr.p hs, fun q σ H env δ x δ' Q k ef kq => ?_⟩
  unfold aCons at ef
  cases e1 : f env δ with
  | none => rw [e1] at ef; cases ef
  | some r1 =>
    obtain ⟨y, δ1⟩ := r1
    rw [e1] at ef
    cases e2 : fr env δ1 with
    | none => simp [e2] at ef
    | some r2 =>
      obtain ⟨ys, δ2⟩ := r2
      simp only [Option.bind_some, e2, Option.map_some, Option.some.injEq, Prod.mk.injEq] at ef
      obtain ⟨rfl, rfl⟩ := ef
      refine ha.r q σ H env δ y δ1 _ k e1 fun v H1 k1 o1 r1 => ?_
      refine hr.r q σ H1 env δ1 ys δ2 _ o1 e2 fun vs H2 k2 o2 r2 => ?_
      exact kq _ H2 (k1.trans k2) o2 (.cons (Rp.keep (k2.weak k.dn) (fun b z => .inl z) _ _ r1) r2)
theorem d_abnil : DAB X [] tNil aNil := ⟨pa_nil, fun q σ H env δ x δ' Q k ef kq => by
  cases ef
  exact kq [] H .refl k trivial⟩
theorem d_abcons (ha : DE X e ta f) (hr : DAB X es tr fr) (hs : starEach (e :: es) X.env = (false, eval e X.env) :: starEach es X.env := by rfl) : DAB X (e :: es) (tCons ta tr) (aCons f fr) := by
  refine ⟨pa_cons ha.p hr.p hs, fun q σ H env δ x δ' Q k ef kq => ?_⟩
  unfold aCons at ef
  cases e1 : f env δ with
  | none => rw [e1] at ef; cases ef
  | some r1 =>
    obtain ⟨y, δ1⟩ := r1
    rw [e1] at ef
    cases e2 : fr env δ1 with
    | none => simp [e2] at ef
    | some r2 =>
      obtain ⟨ys, δ2⟩ := r2
      simp only [Option.bind_some, e2, Option.map_some, Option.some.injEq, Prod.mk.injEq] at ef
      obtain ⟨rfl, rfl⟩ := ef
      refine ha.r q σ H env δ y δ1 _ k e1 fun v H1 k1 o1 r1 => ?_
      refine hr.r q σ H1 env δ1 ys δ2 _ o1 e2 fun vs H2 k2 o2 r2 => ?_
      exact kq _ H2 (k1.trans k2) o2 ⟨r1.keep k.dn k2 fun b z => .inl z, r2⟩
/-! displays -/
def eTup (fr : EA) : E := fun env δ => (fr env δ).bind fun r => if r.1.length < 1000000 then some (.tup r.1, r.2) else none
def eLst (fr : EA) : E := fun env δ => (fr env δ).bind fun r => if r.1.length < 1000000 then some (.lst r.1, r.2) else none
theorem d_tup {x1} (hr : DA X es tr fr) : DS X (.Tuple es x1 pos) (tTup tr) (eTup fr) := by
  refine ⟨pe_tup hr.p, fun q σ H env δ x δ' Q k ef kq => ?_⟩
  unfold eTup at ef
  cases e1 : fr env δ with
  | none => rw [e1] at ef; cases ef
  | some r1 =>
    obtain ⟨ys, δ1⟩ := r1
    rw [e1] at ef
    simp only [Option.bind_some] at ef
    split at ef
    · rename_i hl
      cases ef
      refine hr.r q σ H env δ ys _ _ k e1 fun vs H1 k1 o1 r1 => ⟨by rw [r1.length]; exact le_line hl, fun p hp => ?_⟩
      have s := same_fresh (o := .tup vs) hp
      exact kq _ _ (k1.trans (.of_same s)) (o1.grow s) (.tup upd_same (RpA.keep (.of_same s) (fun b z => .inl z) _ _ r1))
    · cases ef
theorem d_lst (hr : DA X es tr fr) : DS X (.List es pos) (tLst tr) (eLst fr) := by
  refine ⟨pe_lst hr.p, fun q σ H env δ x δ' Q k ef kq => ?_⟩
  unfold eLst at ef
  cases e1 : fr env δ with
  | none => rw [e1] at ef; cases ef
  | some r1 =>
    obtain ⟨ys, δ1⟩ := r1
    rw [e1] at ef
    simp only [Option.bind_some] at ef
    split at ef
    · rename_i hl
      cases ef
      refine hr.r q σ H env δ ys _ _ k e1 fun vs H1 k1 o1 r1 => ⟨by rw [r1.length]; exact le_line hl, fun p hp => ?_⟩
      have s := same_fresh (o := .lst vs) hp
      exact kq _ _ (k1.trans (.of_same s)) (o1.grow s) (.lst upd_same (o1.free hp) (RpA.keep (.of_same s) (fun b z => .inl z) _ _ r1))
    · cases ef
/-! calls of built-ins -/
def RefC (K : PySem.W.Frag) (mg : Str → Option Value) (r : List V → Hp → VK → Prop) (F : List Dat → Option Dat) : Prop := ∀ (d : Option Addr) (N : Addr → Prop) (H : Hp) (vs : List V) (xs : List Dat) (z : Dat) (Q : VK), (∀ a, d = some a → N a) → (∀ b, N b → H b ≠ none) →
  RpBs K mg d N H vs xs → F xs = some z → (∀ u H', Same H H' → Rp K mg d N H' u z → Q u H') → r vs H Q
def eB (F : List Dat → Option Dat) (fr : EA) : E := fun env δ => (fr env δ).bind fun r => (F r.1).map fun z => (z, r.2)
theorem re_b {r : List V → Hp → VK → Prop} {F : List Dat → Option Dat} (hr : RefC K mg r F) (ha : RAB K mg tr fr) : RS K mg (tCB r tr) (eB F fr) := by
  intro q σ H env δ z δ' Q k ef kq
  unfold eB at ef
  cases e1 : fr env δ with
  | none => rw [e1] at ef; cases ef
  | some r1 =>
    obtain ⟨ys, δ1⟩ := r1
    rw [e1] at ef
    cases e3 : F ys with
    | none => simp [e3] at ef
    | some z' =>
      simp only [Option.bind_some, e3, Option.map_some, Option.some.injEq, Prod.mk.injEq] at ef
      obtain ⟨rfl, rfl⟩ := ef
      refine ha q σ H env δ ys δ1 _ k e1 fun vs H1 k1 o1 r1 => ?_
      exact hr q.d (NN q σ env) H1 vs ys z' Q o1.dn (fun b => o1.nn) r1 e3 fun u H3 s3 r3 => kq u H3 (k1.trans (.of_same s3)) (o1.grow s3) r3
variable {x id T : String} {p : Pos} {nm : Str}
theorem d_callB {r : List V → Hp → VK → Prop} {F : List Dat → Option Dat} (hc : CallR X (.builtin id) r) (hr : RefC X.K X.mg r F) (hg : Gl X nm) (hm : X.mg nm = none) (hv : bootBuiltins nm = some (.builtin id)) (ha : DAB X (e :: es) tr fr) (hn : nm ≠ "__name__" := by decide) (hdb : (nm == ("__debug__" : Str)) = false := by decide)
    (he : starEach (e :: es) X.env = (false, eval e X.env) :: starEach es X.env := by rfl) (hpl : (backTo pos (starEach es X.env)).any (·.1) = false := by rfl) : DS X (.Call (.Name nm p) (e :: es) [] pos) (tCB r tr) (eB F fr) :=
  ⟨pe_callB hc hg hm hv ha.p hn hdb he hpl, re_b hr ha.r⟩
theorem d_callTy {r : List V → Hp → VK → Prop} {F : List Dat → Option Dat} (hc : CallR X (.type T) r) (hr : RefC X.K X.mg r F) (hg : Gl X nm) (hm : X.mg nm = none) (hv : bootBuiltins nm = some (.type T)) (ha : DAB X (e :: es) tr fr) (hn : nm ≠ "__name__" := by decide) (hdb : (nm == ("__debug__" : Str)) = false := by decide)
    (he : starEach (e :: es) X.env = (false, eval e X.env) :: starEach es X.env := by rfl) (hpl : (backTo pos (starEach es X.env)).any (·.1) = false := by rfl) : DS X (.Call (.Name nm p) (e :: es) [] pos) (tCB r tr) (eB F fr) :=
  ⟨pe_callTy hc hg hm hv ha.p hn hdb he hpl, re_b hr ha.r⟩
/-! calls of own defs -/
abbrev GF := List Dat → List Int → Option (Dat × List Int)
def spG (K : PySem.W.Frag) (mg : Str → Option Value) (n : Nat) (G : GF) : Sp := fun vs H Q _ => ∃ (d : Option Addr) (N : Addr → Prop) (xs : List Dat) (δ : List Int) (y : Dat) (δ' : List Int),
  xs.length = n ∧ (∀ a, d = some a → N a) ∧ (∀ b, N b → H b ≠ none) ∧ DiceAt d H δ ∧ RpA K mg d N H vs xs ∧ G xs δ = some (y, δ') ∧
  ∀ v H', Keep (isD d) H H' → DiceAt d H' δ' → Rp K mg d N H' v y → Q v H'
abbrev FnG (P : Program) (w : World) (K : PySem.W.Frag) (mg : Str → Option Value) (base : Heap) (k : Nat) (f : Addr) (fd : FuncData) (ps : List Str) (G : GF) : Prop := FnOk P w K mg base CX0 k f fd ps (spG K mg ps.length G)
def eCall (G : GF) (n : Nat) (fr : EA) : E := fun env δ => (fr env δ).bind fun r => if r.1.length = n then G r.1 r.2 else none
theorem re_call {n : Nat} {G : GF} {E0' : XK} (ha : RA K mg tr fr) : RS K mg (tCall (spG K mg n G) [] E0' tr) (eCall G n fr) := by
  intro q σ H env δ z δ' Q k ef kq
  unfold eCall at ef
  cases e1 : fr env δ with
  | none => rw [e1] at ef; cases ef
  | some r1 =>
    obtain ⟨ys, δ1⟩ := r1
    rw [e1] at ef
    simp only [Option.bind_some] at ef
    split at ef
    · rename_i hl
      refine ha q σ H env δ ys δ1 _ k e1 fun vs H1 k1 o1 r1 => ?_
      rw [List.append_nil]
      exact ⟨q.d, NN q σ env, ys, δ1, z, δ', hl, o1.dn, fun b => o1.nn, o1.dc, r1, ef, fun v H2 k2 d2 r2 => kq v H2 (k1.trans k2) (o1.step k2 d2) r2⟩
    · cases ef
theorem d_call {kk : Nat} {ff : Addr} {fd : FuncData} {ps : List Str} {G : GF} (F : FnG X.prog X.w X.K X.mg X.base kk ff fd ps G) (hr : Room kk X.A) (hg : Gl X nm) (hm : X.mg nm = some (.ref ff)) (hk : PySem.W.keepIn X.K (.ref ff) = true) (hb : Binds X.K fd ps [])
    (ha : DA X (e :: es) tr fr) (hdb : (nm == ("__debug__" : Str)) = false := by decide) (he : starEach (e :: es) X.env = (false, eval e X.env) :: starEach es X.env := by rfl) (hpl : (backTo pos (starEach es X.env)).any (·.1) = false := by rfl) :
    DS X (.Call (.Name nm p) (e :: es) [] pos) (tCall (spG X.K X.mg ps.length G) [] E0 tr) (eCall G ps.length fr) :=
  ⟨pe_call F hr hg hm hk hb .nil pass0 ha.p hdb he hpl, re_call ha.r⟩
end
end Dl

namespace Dl
open PySem PySem.Spec L2
/-! ### 4. The state changes -/
section
variable {K : PySem.W.Frag} {mg : Str → Option Value} {q : Fm} {H H' : Hp} {σ : St} {env : Ev} {δ δ' : List Int}
theorem get_set_some {α : Type} {l : List α} {i j : Nat} {x y : α} (h : (l.set i x)[j]? = some y) : (i = j ∧ x = y ∧ j < l.length) ∨ (i ≠ j ∧ l[j]? = some y) := by
  by_cases e : i = j
  · subst e
    by_cases hl : i < l.length
    · rw [List.getElem?_set_self hl] at h
      exact .inl ⟨rfl, Option.some.inj h, hl⟩
    · rw [List.getElem?_eq_none (by simpa using hl)] at h
      cases h
  · rw [List.getElem?_set_ne e] at h
    exact .inr ⟨e, h⟩
abbrev Fm.withGo (q : Fm) (p : Addr) (l : List Dat) : Fm := { q with go := (p, l) :: q.go }
abbrev Fm.withGh (q : Fm) (vs : List V) (xs : List Dat) : Fm := { q with gv := vs ++ q.gv, gx := xs ++ q.gx }
theorem SF.set {q : Fm} {σ : St} {env : Ev} {i : Nat} {v : Option V} {x : Slot} (h : SF q σ env) (hx : ∀ l, x = .own l → l.1.isObj = false) : SF q (σ.set i v) (env.set i x) := fun l a e1 e2 e3 => by
  rcases get_set_some e1 with ⟨rfl, e', _⟩ | ⟨ne, e1'⟩
  · rw [hx l e'] at e2
    cases e2
  · rw [List.getElem?_set_ne ne] at e3
    exact h l a e1' e2 e3
theorem SF.upd {q : Fm} {σ : St} {env : Ev} {i : Nat} {x : Slot} (h : SF q σ env) (hx : ∀ l, x = .own l → l.1.isObj = true → ∃ l', env[i]? = some (.own l') ∧ l'.1.isObj = true) : SF q σ (env.set i x) := fun l a e1 e2 e3 => by
  rcases get_set_some e1 with ⟨rfl, e', _⟩ | ⟨ne, e1'⟩
  · obtain ⟨l', e4, e5⟩ := hx l e' e2
    exact h l' a e4 e5 e3
  · exact h l a e1' e2 e3
/-- a slot takes a value -/
theorem NN.set_val {i : Nat} {v : Option V} {x : Slot} (hx : ∀ l, x ≠ .own l) {b : Addr} (h : NN q (σ.set i v) (env.set i x) b) : NN q σ env b := by
  rcases h with h | h | ⟨j, l, h1, h2⟩
  · exact .inl h
  · exact .inr (.inl h)
  · rcases get_set_some h1 with ⟨_, e, _⟩ | ⟨ne, e⟩
    · exact absurd e (hx l)
    · rw [List.getElem?_set_ne ne] at h2
      exact .inr (.inr ⟨j, l, e, h2⟩)
theorem Ok.set (k : Ok K mg q σ H env δ) (i : Nat) {v : V} {x : Dat} (r : Rp K mg q.d (NN q σ env) H v x) : Ok K mg q (σ.set i (some v)) H (env.set i (.val x)) δ := by
  have hN : ∀ b, NN q (σ.set i (some v)) (env.set i (.val x)) b → NN q σ env b ∨ H b = none := fun b z => .inl (z.set_val (fun l e => by cases e))
  refine ⟨k.kp, k.dc, k.dm, k.md, by simp [k.ln], (k.sf.set fun l e => by cases e), fun j y e => ?_, fun j l e => ?_, fun j1 j2 l l' a e1 e2 e3 e4 => ?_, RpA.keep .refl hN _ _ k.gh, fun a l e => ?_⟩
  · rcases get_set_some e with ⟨rfl, e', hl⟩ | ⟨ne, e'⟩
    · cases e'
      exact ⟨v, List.getElem?_set_self (by rw [k.ln]; exact hl), Rp.keep .refl hN _ _ r⟩
    · obtain ⟨w, e1, r1⟩ := k.vl j y e'
      exact ⟨w, by rw [List.getElem?_set_ne ne]; exact e1, Rp.keep .refl hN _ _ r1⟩
  · rcases get_set_some e with ⟨rfl, e', hl⟩ | ⟨ne, e'⟩
    · cases e'
    · obtain ⟨a, vs, e1, e2, e3, r1⟩ := k.ow j l e'
      exact ⟨a, vs, by rw [List.getElem?_set_ne ne]; exact e1, e2, e3, Cn.keep .refl hN _ _ r1⟩
  · rcases get_set_some e1 with ⟨_, e', _⟩ | ⟨ne1, e1'⟩
    · cases e'
    · rcases get_set_some e2 with ⟨_, e', _⟩ | ⟨ne2, e2'⟩
      · cases e'
      · rw [List.getElem?_set_ne ne1] at e3
        rw [List.getElem?_set_ne ne2] at e4
        exact k.ds j1 j2 l l' a e1' e2' e3 e4
  · obtain ⟨e1, ⟨vs, e3, r1⟩, e4⟩ := k.go a l e
    refine ⟨e1, ⟨vs, e3, RpA.keep .refl hN _ _ r1⟩, fun j l' e5 => ?_⟩
    rcases get_set_some e5 with ⟨_, e', _⟩ | ⟨ne, e5'⟩
    · cases e'
    · rw [List.getElem?_set_ne ne]
      exact e4 j l' e5'
/-- a slot is forgotten -/
theorem Ok.unset (k : Ok K mg q σ H env δ) (i : Nat) : Ok K mg q (σ.set i none) H (env.set i .un) δ := by
  have hN : ∀ b, NN q (σ.set i none) (env.set i .un) b → NN q σ env b ∨ H b = none := fun b z => .inl (z.set_val (fun l e => by cases e))
  refine ⟨k.kp, k.dc, k.dm, k.md, by simp [k.ln], (k.sf.set fun l e => by cases e), fun j y e => ?_, fun j l e => ?_, fun j1 j2 l l' a e1 e2 e3 e4 => ?_, RpA.keep .refl hN _ _ k.gh, fun a l e => ?_⟩
  · rcases get_set_some e with ⟨rfl, e', hl⟩ | ⟨ne, e'⟩
    · cases e'
    · obtain ⟨w, e1, r1⟩ := k.vl j y e'
      exact ⟨w, by rw [List.getElem?_set_ne ne]; exact e1, Rp.keep .refl hN _ _ r1⟩
  · rcases get_set_some e with ⟨rfl, e', hl⟩ | ⟨ne, e'⟩
    · cases e'
    · obtain ⟨a, vs, e1, e2, e3, r1⟩ := k.ow j l e'
      exact ⟨a, vs, by rw [List.getElem?_set_ne ne]; exact e1, e2, e3, Cn.keep .refl hN _ _ r1⟩
  · rcases get_set_some e1 with ⟨_, e', _⟩ | ⟨ne1, e1'⟩
    · cases e'
    · rcases get_set_some e2 with ⟨_, e', _⟩ | ⟨ne2, e2'⟩
      · cases e'
      · rw [List.getElem?_set_ne ne1] at e3
        rw [List.getElem?_set_ne ne2] at e4
        exact k.ds j1 j2 l l' a e1' e2' e3 e4
  · obtain ⟨e1, ⟨vs, e3, r1⟩, e4⟩ := k.go a l e
    refine ⟨e1, ⟨vs, e3, RpA.keep .refl hN _ _ r1⟩, fun j l' e5 => ?_⟩
    rcases get_set_some e5 with ⟨_, e', _⟩ | ⟨ne, e5'⟩
    · cases e'
    · rw [List.getElem?_set_ne ne]
      exact e4 j l' e5'
theorem NN.go {p : Addr} {l : List Dat} {b : Addr} (h : NN (q.withGo p l) σ env b) : b = p ∨ NN q σ env b := by
  rcases h with h | ⟨l', h⟩ | h
  · exact .inr (.inl h)
  · rcases List.mem_cons.mp h with h | h
    · cases h
      exact .inl rfl
    · exact .inr (.inr (.inl ⟨l', h⟩))
  · exact .inr (.inr (.inr h))
theorem NN.of_go {p : Addr} {l : List Dat} {b : Addr} (h : NN q σ env b) : NN (q.withGo p l) σ env b := by
  rcases h with h | ⟨l', h⟩ | h
  · exact .inl h
  · exact .inr (.inl ⟨l', List.mem_cons_of_mem _ h⟩)
  · exact .inr (.inr h)
/-- a new list that is being filled -/
theorem Ok.pushGo (k : Ok K mg q σ H env δ) {p : Addr} {vs : List V} {l : List Dat} (hp : H p = none) (r : RpA K mg q.d (NN q σ env) H vs l) :
    Ok K mg (q.withGo p l) σ (upd H p (.lst vs)) env δ ∧ ∀ l', (p, l') ∉ q.go := by
  have s := same_fresh (o := .lst vs) hp
  have k' := k.grow s
  have hN : ∀ b, NN (q.withGo p l) σ env b → NN q σ env b ∨ H b = none := fun b z => by
    rcases z.go with rfl | z
    · exact .inr hp
    · exact .inl z
  have hK : Keep (NN q σ env) H (upd H p (.lst vs)) := .of_same s
  refine ⟨⟨k'.kp, k'.dc, k.dm, k.md, k.ln, k.sf, fun j y e => ?_, fun j l' e => ?_, k.ds, RpA.keep hK hN _ _ k.gh, fun a l' e => ?_⟩, fun l' h => ?_⟩
  · obtain ⟨w, e1, r1⟩ := k.vl j y e
    exact ⟨w, e1, Rp.keep hK hN _ _ r1⟩
  · obtain ⟨a, ws, e1, e2, e3, r1⟩ := k.ow j l' e
    exact ⟨a, ws, e1, e2, s a _ e3, Cn.keep hK hN _ _ r1⟩
  · rcases List.mem_cons.mp e with e | e
    · cases e
      refine ⟨k.free0 hp, ⟨vs, upd_same, RpA.keep hK hN _ _ r⟩, fun j l' e5 e6 => ?_⟩
      obtain ⟨a, ws, e1, e2, e3, r1⟩ := k.ow j l' e5
      rw [e6] at e1
      cases e1
      rw [hp] at e3
      cases e3
    · obtain ⟨e1, ⟨ws, e3, r1⟩, e4⟩ := k.go a l' e
      exact ⟨e1, ⟨ws, s a _ e3, RpA.keep hK hN _ _ r1⟩, e4⟩
  · obtain ⟨_, ⟨ws, e3, _⟩, _⟩ := k.go p l' h
    rw [hp] at e3
    cases e3
/-- it is a value -/
theorem Ok.popGo {p : Addr} {l : List Dat} (k : Ok K mg (q.withGo p l) σ H env δ) (hp : ∀ l', (p, l') ∉ q.go) : Ok K mg q σ H env δ ∧ Rp K mg q.d (NN q σ env) H (.ref p) (.lst l) := by
  have hN : ∀ b, NN q σ env b → NN (q.withGo p l) σ env b ∨ H b = none := fun b z => .inl z.of_go
  refine ⟨⟨k.kp, k.dc, k.dm, k.md, k.ln, k.sf, fun j y e => ?_, fun j l' e => ?_, k.ds, RpA.keep .refl hN _ _ k.gh, fun a l' e => ?_⟩, ?_⟩
  · obtain ⟨w, e1, r1⟩ := k.vl j y e
    exact ⟨w, e1, Rp.keep .refl hN _ _ r1⟩
  · obtain ⟨a, ws, e1, e2, e3, r1⟩ := k.ow j l' e
    exact ⟨a, ws, e1, e2, e3, Cn.keep .refl hN _ _ r1⟩
  · obtain ⟨e1, ⟨ws, e3, r1⟩, e4⟩ := k.go a l' (List.mem_cons_of_mem _ e)
    exact ⟨e1, ⟨ws, e3, RpA.keep .refl hN _ _ r1⟩, e4⟩
  · obtain ⟨e1, ⟨ws, e3, r1⟩, e4⟩ := k.go p l List.mem_cons_self
    refine .lst e3 (fun z => ?_) (RpA.keep .refl hN _ _ r1)
    rcases z with z | ⟨l', z⟩ | ⟨j, l', z1, z2⟩
    · exact k.md p z e1
    · exact hp l' z
    · exact e4 j l' z1 z2
/-- one item more -/
theorem Ok.growGo {p : Addr} {l : List Dat} {vs : List V} {v : V} {x : Dat} (k : Ok K mg (q.withGo p l) σ H env δ) (hp : ∀ l', (p, l') ∉ q.go) (e : H p = some (.lst vs)) (r : Rp K mg q.d (NN (q.withGo p l) σ env) H v x) :
    Ok K mg (q.withGo p (l ++ [x])) σ (upd H p (.lst (vs ++ [v]))) env δ := by
  obtain ⟨g1, ⟨ws, g3, gr⟩, g4⟩ := k.go p l List.mem_cons_self
  rw [e] at g3
  cases g3
  have pN : NN (q.withGo p l) σ env p := .inr (.inl ⟨l, List.mem_cons_self⟩)
  have dp : q.d ≠ some p := fun z => k.md p (k.dm p z) g1
  have ne : ∀ b o, H b = some o → b ≠ p → upd H p (.lst (vs ++ [v])) b = some o := fun b o h n => by rw [upd_ne n]; exact h
  have hK : Keep (NN (q.withGo p l) σ env) H (upd H p (.lst (vs ++ [v]))) := .at e pN rfl rfl rfl
  have hN : ∀ b, NN (q.withGo p (l ++ [x])) σ env b → NN (q.withGo p l) σ env b ∨ H b = none := fun b z => .inl (by
    rcases z.go with rfl | z
    · exact pN
    · exact z.of_go)
  refine ⟨k.kp.off g1 e rfl rfl, fun a ha => ?_, k.dm, k.md, k.ln, k.sf, fun j y e => ?_, fun j l' e5 => ?_, k.ds, RpA.keep hK hN _ _ k.gh, fun a l' e5 => ?_⟩
  · exact ne a _ (k.dc a ha) fun z => dp (by rw [← z]; exact ha)
  · obtain ⟨w, e1, r1⟩ := k.vl j y e
    exact ⟨w, e1, Rp.keep hK hN _ _ r1⟩
  · obtain ⟨a, ws, e1, e2, e3, r1⟩ := k.ow j l' e5
    exact ⟨a, ws, e1, e2, ne a _ e3 fun z => g4 j l' e5 (by rw [← z]; exact e1), Cn.keep hK hN _ _ r1⟩
  · rcases List.mem_cons.mp e5 with e5 | e5
    · cases e5
      refine ⟨g1, ⟨_, upd_same, RpA.append (RpA.keep hK hN _ _ gr) (.cons (Rp.keep hK hN _ _ r) .nil)⟩, g4⟩
    · obtain ⟨e1, ⟨ws, e3, r1⟩, e4⟩ := k.go a l' (List.mem_cons_of_mem _ e5)
      exact ⟨e1, ⟨ws, ne a _ e3 fun z => hp l' (by rw [← z]; exact e5), RpA.keep hK hN _ _ r1⟩, e4⟩
/-- it goes to a slot -/
theorem Ok.goOwn {p : Addr} {l : List Dat} (k : Ok K mg (q.withGo p l) σ H env δ) (hp : ∀ l', (p, l') ∉ q.go) (i : Nat) : Ok K mg q (σ.set i (some (.ref p))) H (env.set i (.own (.lst, l))) δ := by
  obtain ⟨g1, ⟨vs, g3, gr⟩, g4⟩ := k.go p l List.mem_cons_self
  have hN : ∀ b, NN q (σ.set i (some (.ref p))) (env.set i (.own (.lst, l))) b → NN (q.withGo p l) σ env b ∨ H b = none := fun b z => .inl (by
    rcases z with z | ⟨l', z⟩ | ⟨j, l', z1, z2⟩
    · exact .inl z
    · exact .inr (.inl ⟨l', List.mem_cons_of_mem _ z⟩)
    · rcases get_set_some z1 with ⟨rfl, e', hl⟩ | ⟨ne, z1'⟩
      · rw [List.getElem?_set_self (by rw [k.ln]; exact hl)] at z2
        cases z2
        exact .inr (.inl ⟨l, List.mem_cons_self⟩)
      · rw [List.getElem?_set_ne ne] at z2
        exact .inr (.inr ⟨j, l', z1', z2⟩))
  refine ⟨k.kp, k.dc, k.dm, k.md, by simp [k.ln], (k.sf.set fun l e => by cases e; rfl), fun j y e => ?_, fun j l' e => ?_, fun j1 j2 l1 l2 a e1 e2 e3 e4 => ?_, RpA.keep .refl hN _ _ k.gh, fun a l' e => ?_⟩
  · rcases get_set_some e with ⟨rfl, e', hl⟩ | ⟨ne, e'⟩
    · cases e'
    · obtain ⟨w, e1, r1⟩ := k.vl j y e'
      exact ⟨w, by rw [List.getElem?_set_ne ne]; exact e1, Rp.keep .refl hN _ _ r1⟩
  · rcases get_set_some e with ⟨rfl, e', hl⟩ | ⟨ne, e'⟩
    · cases e'
      exact ⟨p, (vs, .lst vs), List.getElem?_set_self (by rw [k.ln]; exact hl), g1, g3, Cn.keep .refl hN _ _ (.lst gr)⟩
    · obtain ⟨a, ws, e1, e2, e3, r1⟩ := k.ow j l' e'
      exact ⟨a, ws, by rw [List.getElem?_set_ne ne]; exact e1, e2, e3, Cn.keep .refl hN _ _ r1⟩
  · rcases get_set_some e1 with ⟨rfl, e', hl⟩ | ⟨ne1, e1'⟩
    · rw [List.getElem?_set_self (by rw [k.ln]; exact hl)] at e3
      cases e3
      rcases get_set_some e2 with ⟨h, _, _⟩ | ⟨ne2, e2'⟩
      · exact h
      · rw [List.getElem?_set_ne ne2] at e4
        exact absurd e4 (g4 j2 l2 e2')
    · rw [List.getElem?_set_ne ne1] at e3
      rcases get_set_some e2 with ⟨rfl, e', hl⟩ | ⟨ne2, e2'⟩
      · rw [List.getElem?_set_self (by rw [k.ln]; exact hl)] at e4
        cases e4
        exact absurd e3 (g4 j1 l1 e1')
      · rw [List.getElem?_set_ne ne2] at e4
        exact k.ds j1 j2 l1 l2 a e1' e2' e3 e4
  · obtain ⟨e1, ⟨ws, e3, r1⟩, e4⟩ := k.go a l' (List.mem_cons_of_mem _ e)
    refine ⟨e1, ⟨ws, e3, RpA.keep .refl hN _ _ r1⟩, fun j l2 e5 => ?_⟩
    rcases get_set_some e5 with ⟨rfl, e', hl⟩ | ⟨ne, e5'⟩
    · rw [List.getElem?_set_self (by rw [k.ln]; exact hl)]
      intro z
      cases z
      exact hp l' e
    · rw [List.getElem?_set_ne ne]
      exact e4 j l2 e5'
/-- a slot's list changes -/
theorem Ok.conUpd (k : Ok K mg q σ H env δ) {i : Nat} {a : Addr} {l l' : Lc} {vs' : List V × HO} (he : env[i]? = some (.own l)) (hs : σ[i]? = some (some (.ref a))) (r : Cn K mg q.d (NN q σ env) H vs' l') (ho : l'.1.isObj = true → l.1.isObj = true) :
    Ok K mg q σ (upd H a vs'.2) (env.set i (.own l')) δ := by
  obtain ⟨a', vs, s1, g1, g3, gr⟩ := k.ow i l he
  rw [hs] at s1
  cases s1
  have hi : i < env.length := (List.getElem?_eq_some_iff.mp he).1
  have pN : NN q σ env a := .inr (.inr ⟨i, l, he, hs⟩)
  have dp : q.d ≠ some a := fun z => k.md a (k.dm a z) g1
  have ne : ∀ b o, H b = some o → b ≠ a → upd H a vs'.2 b = some o := fun b o h n => by rw [upd_ne n]; exact h
  have hK : Keep (NN q σ env) H (upd H a vs'.2) := .at g3 pN gr.isMut gr.isTb gr.isEx
  have hN : ∀ b, NN q σ (env.set i (.own l')) b → NN q σ env b ∨ H b = none := fun b z => .inl (by
    rcases z with z | z | ⟨j, l2, z1, z2⟩
    · exact .inl z
    · exact .inr (.inl z)
    · rcases get_set_some z1 with ⟨rfl, e', hl⟩ | ⟨ne, z1'⟩
      · exact .inr (.inr ⟨i, l, he, z2⟩)
      · exact .inr (.inr ⟨j, l2, z1', z2⟩))
  refine ⟨k.kp.off g1 g3 gr.isTb gr.isEx, fun b hb => ?_, k.dm, k.md, by simp [k.ln], (k.sf.upd fun l2 e h => ⟨l, he, ho (by cases e; exact h)⟩), fun j y e => ?_, fun j l2 e5 => ?_, fun j1 j2 l1 l2 b e1 e2 e3 e4 => ?_, RpA.keep hK hN _ _ k.gh, fun b l2 e5 => ?_⟩
  · exact ne b _ (k.dc b hb) fun z => dp (by rw [← z]; exact hb)
  · rcases get_set_some e with ⟨rfl, e', hl⟩ | ⟨ne, e'⟩
    · cases e'
    · obtain ⟨w, e1, r1⟩ := k.vl j y e'
      exact ⟨w, e1, Rp.keep hK hN _ _ r1⟩
  · rcases get_set_some e5 with ⟨rfl, e', hl⟩ | ⟨ne', e'⟩
    · cases e'
      exact ⟨a, vs', hs, g1, upd_same, Cn.keep hK hN _ _ r⟩
    · obtain ⟨b, ws, e1, e2, e3, r1⟩ := k.ow j l2 e'
      exact ⟨b, ws, e1, e2, ne b _ e3 fun z => ne' (by subst z; exact k.ds i j l l2 b he e' hs e1), Cn.keep hK hN _ _ r1⟩
  · have f : ∀ (j : Nat) (l3 : Lc), (env.set i (.own l'))[j]? = some (.own l3) → ∃ l4, env[j]? = some (.own l4) := fun j l3 h => by
      rcases get_set_some h with ⟨rfl, e', hl⟩ | ⟨ne', e'⟩
      · exact ⟨l, he⟩
      · exact ⟨l3, e'⟩
    obtain ⟨l3, f1⟩ := f j1 l1 e1
    obtain ⟨l4, f2⟩ := f j2 l2 e2
    exact k.ds j1 j2 l3 l4 b f1 f2 e3 e4
  · obtain ⟨e1, ⟨ws, e3, r1⟩, e4⟩ := k.go b l2 e5
    refine ⟨e1, ⟨ws, ne b _ e3 fun z => ?_, RpA.keep hK hN _ _ r1⟩, fun j l3 e6 => ?_⟩
    · subst z
      exact e4 i l he hs
    · rcases get_set_some e6 with ⟨rfl, e', hl⟩ | ⟨ne', e'⟩
      · exact e4 i l he
      · exact e4 j l3 e'
theorem Ok.ownUpd (k : Ok K mg q σ H env δ) {i : Nat} {a : Addr} {l l' : List Dat} {vs' : List V} (he : env[i]? = some (.own (.lst, l))) (hs : σ[i]? = some (some (.ref a))) (r : RpA K mg q.d (NN q σ env) H vs' l') :
    Ok K mg q σ (upd H a (.lst vs')) (env.set i (.own (.lst, l'))) δ := k.conUpd he hs (vs' := (vs', .lst vs')) (.lst r) (fun z => by cases z)
/-- a slot's list is a value from now on -/
theorem Ok.freezeC (k : Ok K mg q σ H env δ) {i : Nat} {l : Lc} (he : env[i]? = some (.own l)) : Ok K mg q σ H (env.set i (.val l.dat)) δ := by
  obtain ⟨a, vs, hs, g1, g3, gr⟩ := k.ow i l he
  have sub : ∀ b, NN q σ (env.set i (.val l.dat)) b → NN q σ env b := fun b z => by
    rcases z with z | z | ⟨j, l2, z1, z2⟩
    · exact .inl z
    · exact .inr (.inl z)
    · rcases get_set_some z1 with ⟨rfl, e', hl⟩ | ⟨ne, z1'⟩
      · cases e'
      · exact .inr (.inr ⟨j, l2, z1', z2⟩)
  have hN : ∀ b, NN q σ (env.set i (.val l.dat)) b → NN q σ env b ∨ H b = none := fun b z => .inl (sub b z)
  refine ⟨k.kp, k.dc, k.dm, k.md, by simp [k.ln], (k.sf.upd fun l e => by cases e), fun j y e => ?_, fun j l' e => ?_, fun j1 j2 l1 l2 b e1 e2 e3 e4 => ?_, RpA.keep .refl hN _ _ k.gh, fun b l' e => ?_⟩
  · rcases get_set_some e with ⟨rfl, e', hl⟩ | ⟨ne, e'⟩
    · cases e'
      have nn : ¬ NN q σ (env.set i (.val l.dat)) a := fun z => ?_
      · have gr := Cn.keep .refl hN _ _ gr
        obtain ⟨kd, l⟩ := l
        obtain ⟨vs, o⟩ := vs
        obtain ⟨co, r⟩ := gr
        have co : Co mg kd vs o := co
        have g3 : H a = some o := g3
        refine ⟨.ref a, hs, ?_⟩
        cases co with
        | lst => exact .lst g3 nn r
        | dT hl => exact .dT (.of g3) hl nn r
        | obj hc hl => exact .obj hc g3 hl nn r
      rcases z with z | ⟨l', z⟩ | ⟨j, l', z1, z2⟩
      · exact k.md a z g1
      · obtain ⟨_, _, e4⟩ := k.go a l' z
        exact e4 i l he hs
      · rcases get_set_some z1 with ⟨rfl, e', hl⟩ | ⟨ne, z1'⟩
        · cases e'
        · exact ne (k.ds i j l l' a he z1' hs z2)
    · obtain ⟨w, e1, r1⟩ := k.vl j y e'
      exact ⟨w, e1, Rp.keep .refl hN _ _ r1⟩
  · rcases get_set_some e with ⟨rfl, e', hl⟩ | ⟨ne, e'⟩
    · cases e'
    · obtain ⟨b, ws, e1, e2, e3, r1⟩ := k.ow j l' e'
      exact ⟨b, ws, e1, e2, e3, Cn.keep .refl hN _ _ r1⟩
  · rcases get_set_some e1 with ⟨rfl, e', hl⟩ | ⟨ne1, e1'⟩
    · cases e'
    · rcases get_set_some e2 with ⟨rfl, e', hl⟩ | ⟨ne2, e2'⟩
      · cases e'
      · exact k.ds j1 j2 l1 l2 b e1' e2' e3 e4
  · obtain ⟨e1, ⟨ws, e3, r1⟩, e4⟩ := k.go b l' e
    refine ⟨e1, ⟨ws, e3, RpA.keep .refl hN _ _ r1⟩, fun j l2 e5 => ?_⟩
    rcases get_set_some e5 with ⟨rfl, e', hl⟩ | ⟨ne, e5'⟩
    · cases e'
    · exact e4 j l2 e5'
theorem Ok.freeze (k : Ok K mg q σ H env δ) {i : Nat} {l : List Dat} (he : env[i]? = some (.own (.lst, l))) : Ok K mg q σ H (env.set i (.val (.lst l))) δ := k.freezeC he
/-- ghosts -/
theorem Ok.pushGh (k : Ok K mg q σ H env δ) {vs : List V} {xs : List Dat} (r : RpA K mg q.d (NN q σ env) H vs xs) : Ok K mg (q.withGh vs xs) σ H env δ :=
  ⟨k.kp, k.dc, k.dm, k.md, k.ln, k.sf, k.vl, k.ow, k.ds, RpA.append r k.gh, k.go⟩
theorem RpA.split {d : Option Addr} {N : Addr → Prop} : ∀ {vs ws : List V} {xs ys : List Dat}, vs.length = xs.length → RpA K mg d N H (vs ++ ws) (xs ++ ys) → RpA K mg d N H vs xs ∧ RpA K mg d N H ws ys
  | [], _, [], _, _, h => ⟨.nil, h⟩
  | v :: vs, _, x :: xs, _, e, h => by
    cases h with
    | cons h1 h2 =>
      obtain ⟨a, b⟩ := RpA.split (vs := vs) (xs := xs) (by simpa using e) h2
      exact ⟨.cons h1 a, b⟩
  | [], _, _ :: _, _, e, _ => by simp at e
  | _ :: _, _, [], _, e, _ => by simp at e
theorem Ok.popGh {vs : List V} {xs : List Dat} (hl : vs.length = xs.length) (k : Ok K mg (q.withGh vs xs) σ H env δ) : Ok K mg q σ H env δ ∧ RpA K mg q.d (NN q σ env) H vs xs := by
  obtain ⟨r1, r2⟩ := RpA.split hl k.gh
  exact ⟨⟨k.kp, k.dc, k.dm, k.md, k.ln, k.sf, k.vl, k.ow, k.ds, r2, k.go⟩, r1⟩
end
end Dl

namespace Dl
open PySem PySem.Spec L2
/-! ### 5. Statements -/
inductive Out where
  | nx (env : Ev) (δ : List Int) | rt (x : Dat) (δ : List Int) | bk (env : Ev) (δ : List Int) | ct (env : Ev) (δ : List Int)
abbrev Sg := Ev → List Int → Option Out
def EOk (K : PySem.W.Frag) (mg : Str → Option Value) (q : Fm) (D : Ends) : Out → Prop
  | .nx env δ => ∀ σ H, Ok K mg q σ H env δ → D.nx σ H
  | .bk env δ => ∀ σ H, Ok K mg q σ H env δ → D.bk σ H
  | .ct env δ => ∀ σ H, Ok K mg q σ H env δ → D.ct σ H
  | .rt x δ => ∀ v H, Keep (isD q.d) q.H0 H → DiceAt q.d H δ → Rp K mg q.d q.M H v x → D.rt v H
def RSt (K : PySem.W.Frag) (mg : Str → Option Value) (t : TS) (g : Sg) : Prop := ∀ (q : Fm) (σ : St) (H : Hp) (env : Ev) (δ : List Int) (o : Out) (D : Ends), Ok K mg q σ H env δ → g env δ = some o → EOk K mg q D o → t D σ H
structure DSt (X : Cx) (st : Stmt) (t : TS) (g : Sg) : Prop where
  p : PS X st t
  r : RSt X.K X.mg t g
structure DSs (X : Cx) (st : List Stmt) (t : TS) (g : Sg) : Prop where
  p : PSs X st t
  r : RSt X.K X.mg t g
section
variable {X : Cx} {st : Stmt} {sts : List Stmt} {e a b c : Expr} {es : List Expr} {t u : TS} {ta tb te : TE} {tc : TT} {f : E} {fc : ET} {g g1 g2 : Sg} {pos : Pos} {K : PySem.W.Frag} {mg : Str → Option Value}
def gNext : Sg := fun env δ => some (.nx env δ)
def gSeq (g1 g2 : Sg) : Sg := fun env δ => (g1 env δ).bind fun o => match o with
  | .nx env' δ' => g2 env' δ'
  | o => some o
theorem rs_next : RSt K mg tNext gNext := by
  intro q σ H env δ o D k ef ko
  cases ef
  exact ko σ H k
theorem rs_seq (h1 : RSt K mg t g1) (h2 : RSt K mg u g2) : RSt K mg (tSeq t u) (gSeq g1 g2) := by
  intro q σ H env δ o D k ef ko
  unfold gSeq at ef
  cases e1 : g1 env δ with
  | none => rw [e1] at ef; cases ef
  | some o1 =>
    rw [e1] at ef
    cases o1 with
    | nx env' δ' => exact h1 q σ H env δ _ { D with nx := u D } k e1 fun σ' H' k' => h2 q σ' H' env' δ' o D k' ef ko
    | rt x δ' =>
      cases ef
      exact h1 q σ H env δ _ { D with nx := u D } k e1 ko
    | bk env' δ' =>
      cases ef
      exact h1 q σ H env δ _ { D with nx := u D } k e1 ko
    | ct env' δ' =>
      cases ef
      exact h1 q σ H env δ _ { D with nx := u D } k e1 ko
theorem d_nil : DSs X [] tNext gNext := ⟨pss_nil, rs_next⟩
theorem d_cons (h1 : DSt X st t g1) (h2 : DSs X sts u g2) : DSs X (st :: sts) (tSeq t u) (gSeq g1 g2) := ⟨pss_cons h1.p h2.p, rs_seq h1.r h2.r⟩
theorem d_last (h1 : DSt X st t g1) : DSs X [st] t g1 := ⟨pss_one h1.p, h1.r⟩
theorem d_pass : DSt X (.Pass pos) tNext gNext := ⟨ps_pass, rs_next⟩
def gBreak : Sg := fun env δ => some (.bk env δ)
def gCont : Sg := fun env δ => some (.ct env δ)
theorem d_break : DSt X (.Break pos) tBreak gBreak := ⟨ps_break, fun q σ H env δ o D k ef ko => by cases ef; exact ko σ H k⟩
theorem d_cont : DSt X (.Continue pos) tCont gCont := ⟨ps_continue, fun q σ H env δ o D k ef ko => by cases ef; exact ko σ H k⟩
/-! return -/
theorem Ok.ret {q : Fm} {σ : St} {H : Hp} {env : Ev} {δ : List Int} {D : Ends} {v : V} {x : Dat} (k : Ok K mg q σ H env δ) (ko : EOk K mg q D (.rt x δ)) (r : Rp K mg q.d (NN q σ env) H v x) : D.rt v H :=
  ko v H k.kp k.dc (Rp.keep .refl (fun b z => .inl (.inl z)) _ _ r)
def gRet (f : E) : Sg := fun env δ => (f env δ).map fun r => .rt r.1 r.2
theorem d_ret (he : DS X e te f) : DSt X (.Return (some e) pos) (tRet te) (gRet f) := by
  refine ⟨ps_ret he.p, fun q σ H env δ o D k ef ko => ?_⟩
  unfold gRet at ef
  cases e1 : f env δ with
  | none => rw [e1] at ef; cases ef
  | some r1 =>
    rw [e1] at ef
    cases ef
    exact he.r q σ H env δ r1.1 r1.2 _ k e1 fun v H1 k1 o1 r => o1.ret ko r
def gRetOwn (i : Nat) : Sg := fun env δ => match env[i]? with
  | some (.own (.lst, l)) => some (.rt (.lst l) δ)
  | _ => none
theorem d_retOwn (i : Nat) (he : PE X e (tVar i)) : DSt X (.Return (some e) pos) (tRet (tVar i)) (gRetOwn i) := by
  refine ⟨ps_ret he, fun q σ H env δ o D k ef ko => ?_⟩
  unfold gRetOwn at ef
  split at ef
  · rename_i l hy
    cases ef
    obtain ⟨a, vs, e1, g1, e3, r⟩ := k.owL i _ hy
    exact ⟨.ref a, e1, ko _ _ k.kp k.dc (.lst e3 (fun z => k.md a z g1) (RpA.keep .refl (fun b z => .inl (.inl z)) _ _ r))⟩
  · cases ef
def gRetN : Sg := fun _ δ => some (.rt .non δ)
theorem d_retN : DSt X (.Return none pos) tRetN gRetN := ⟨ps_retN, fun q σ H env δ o D k ef ko => by cases ef; exact k.ret ko .non⟩
/-! if -/
def gIf (c : ET) (g1 g2 : Sg) : Sg := fun env δ => (c env δ).bind fun r => if r.1 = true then g1 env r.2 else g2 env r.2
theorem d_if {s1 s2 : List Stmt} (hc : DT X c tc fc) (h1 : DSs X s1 t g1) (h2 : DSs X s2 u g2) : DSt X (.If c s1 s2 pos) (tIfS tc t u) (gIf fc g1 g2) := by
  refine ⟨ps_if hc.p h1.p h2.p, fun q σ H env δ o D k ef ko => ?_⟩
  unfold gIf at ef
  cases e1 : fc env δ with
  | none => rw [e1] at ef; cases ef
  | some r1 =>
    obtain ⟨x, δ1⟩ := r1
    rw [e1] at ef
    refine hc.r q σ H env δ x δ1 _ k e1 fun H1 k1 o1 => ?_
    cases x with
    | true => exact h1.r q σ H1 env δ1 o D o1 ef ko
    | false => exact h2.r q σ H1 env δ1 o D o1 ef ko
/-! targets -/
abbrev GT := Dat → Ev → Option Ev
abbrev GTs := List Dat → Ev → Option Ev
/-- alike but at ts -/
def Ag {α : Type} (ts : List Nat) (l l' : List α) : Prop := l'.length = l.length ∧ ∀ j, j ∉ ts → l'[j]? = l[j]?
theorem Ag.refl {α : Type} {ts : List Nat} {l : List α} : Ag ts l l := ⟨rfl, fun _ _ => rfl⟩
theorem Ag.set {α : Type} {l : List α} {i : Nat} {x : α} : Ag [i] l (l.set i x) := ⟨by simp, fun j hj => List.getElem?_set_ne fun e => hj (by simp [e])⟩
theorem Ag.trans {α : Type} {ts us : List Nat} {l l1 l2 : List α} (a : Ag ts l l1) (b : Ag us l1 l2) : Ag (ts ++ us) l l2 :=
  ⟨b.1.trans a.1, fun j hj => (b.2 j fun z => hj (List.mem_append_right _ z)).trans (a.2 j fun z => hj (List.mem_append_left _ z))⟩
def RG (K : PySem.W.Frag) (mg : Str → Option Value) (t : TG) (g : GT) (ts : List Nat) : Prop := ∀ (q : Fm) (σ : St) (H : Hp) (env : Ev) (δ : List Int) (v : V) (x : Dat) (env' : Ev) (Q : St → Hp → Prop), Ok K mg q σ H env δ → Rp K mg q.d (NN q σ env) H v x → g x env = some env' → (∀ σ', Ag ts σ σ' → Ag ts env env' → Ok K mg q σ' H env' δ → Q σ' H) → t v σ H Q
def RGs (K : PySem.W.Frag) (mg : Str → Option Value) (t : TGs) (g : GTs) (ts : List Nat) : Prop := ∀ (q : Fm) (σ : St) (H : Hp) (env : Ev) (δ : List Int) (vs : List V) (xs : List Dat) (env' : Ev) (Q : St → Hp → Prop), Ok K mg q σ H env δ → RpA K mg q.d (NN q σ env) H vs xs → g xs env = some env' → (∀ σ', Ag ts σ σ' → Ag ts env env' → Ok K mg q σ' H env' δ → Q σ' H) → t vs σ H Q
structure DG (X : Cx) (e : Expr) (t : TG) (g : GT) (ts : List Nat) : Prop where
  p : PG X e t
  r : RG X.K X.mg t g ts
structure DGs (X : Cx) (es : List Expr) (t : TGs) (g : GTs) (ts : List Nat) : Prop where
  p : PGs X es t
  r : RGs X.K X.mg t g ts
def tgName (i : Nat) : GT := fun x env => some (env.set i (.val x))
theorem rg_name (i : Nat) : RG K mg (gName i) (tgName i) [i] := by
  intro q σ H env δ v x env' Q k r ef kq
  cases ef
  exact kq _ .set .set (k.set i r)
theorem d_gname (i : Nat) (h : PG X e (gName i)) : DG X e (gName i) (tgName i) [i] := ⟨h, rg_name i⟩
def tgNil : GTs := fun xs env => match xs with
  | [] => some env
  | _ => none
/-- several targets: the later items are read ahead of the first store -/
def tgCons (g : GT) (gs : GTs) : GTs := fun xs env => match xs with
  | x :: xs => (g x env).bind fun env' => gs xs env'
  | [] => none
theorem d_gnil : DGs X [] gNil tgNil [] := ⟨pgs_nil, fun q σ H env δ vs xs env' Q k r ef kq => by
  cases r with
  | nil => cases ef; exact ⟨rfl, kq _ .refl .refl k⟩
  | cons _ _ => cases ef⟩
theorem d_gcons {tg : TG} {gd : GT} {tgs : TGs} {gds : GTs} {ts us : List Nat} (h1 : DG X e tg gd ts) (h2 : DGs X es tgs gds us) (hs : (assignEach (e :: es) X.env).map (·.2) = assign e X.env :: (assignEach es X.env).map (·.2) := by rfl) : DGs X (e :: es) (gCons tg tgs) (tgCons gd gds) (ts ++ us) := by
  refine ⟨pgs_cons h1.p h2.p hs, fun q σ H env δ vs xs env' Q k r ef kq => ?_⟩
  cases r with
  | nil => cases ef
  | cons r1 r2 =>
    rename_i v vs x xs
    refine ⟨v, vs, rfl, ?_⟩
    have ef' : ((gd x env).bind fun env' => gds xs env') = some env' := ef
    cases e1 : gd x env with
    | none => rw [e1] at ef'; cases ef'
    | some env1 =>
      rw [e1] at ef'
      refine h1.r (q.withGh vs xs) σ H env δ v x env1 _ (k.pushGh r2) r1 e1 fun σ1 a1 b1 k1 => ?_
      obtain ⟨k2, r3⟩ := k1.popGh r2.length
      exact h2.r q σ1 H env1 δ vs xs env' Q k2 r3 ef' fun σ2 a2 b2 k3 => kq σ2 (a1.trans a2) (b1.trans b2) k3
def tgTup (n : Nat) (gs : GTs) : GT := fun x env => match x with
  | .tup xs => if xs.length = n then gs xs env else none
  | .ctup xs => if xs.length = n then gs xs env else none
  | _ => none
theorem d_gtup {kk n : Nat} {tgs : TGs} {gds : GTs} {ts : List Nat} (hc : X.calm = true) (h : DGs X es tgs gds ts) (hn : (assignEach es X.env).length = n := by rfl) (hst : (assignEach es X.env).findIdx? (·.1) = none := by rfl) :
    DG X (.Tuple es kk pos) (gTup X.K n tgs) (tgTup n gds) ts := by
  refine ⟨pg_tup hc h.p hn hst, fun q σ H env δ v x env' Q k r ef kq => ?_⟩
  cases x with
  | tup xs =>
    have ef' : (if xs.length = n then gds xs env else none) = some env' := ef
    split at ef'
    · rename_i hl
      cases r with
      | tup h1 h2 => exact ⟨_, _, rfl, .of h1, by rw [h2.length]; exact hl, h.r q σ H env δ _ xs env' Q k h2 ef' kq⟩
    · cases ef'
  | ctup xs =>
    have ef' : (if xs.length = n then gds xs env else none) = some env' := ef
    split at ef'
    · rename_i hl
      cases r with
      | ctup h1 h2 => exact ⟨_, _, rfl, h1, by rw [h2.length]; exact hl, h.r q σ H env δ _ xs env' Q k h2 ef' kq⟩
    · cases ef'
  | _ => cases ef
/-! assignments -/
def gAsg (gd : GT) (f : E) : Sg := fun env δ => (f env δ).bind fun r => (gd r.1 env).map fun env' => .nx env' r.2
theorem rs_asg {tg : TG} {gd : GT} {ts : List Nat} (he : RS K mg te f) (hg : RG K mg tg gd ts) : RSt K mg (tAsg te tg) (gAsg gd f) := by
  intro q σ H env δ o D k ef ko
  unfold gAsg at ef
  cases e1 : f env δ with
  | none => rw [e1] at ef; cases ef
  | some r1 =>
    obtain ⟨x, δ1⟩ := r1
    rw [e1] at ef
    cases e2 : gd x env with
    | none => simp [e2] at ef
    | some env' =>
      simp only [Option.bind_some, e2, Option.map_some, Option.some.injEq] at ef
      subst ef
      exact he q σ H env δ x δ1 _ k e1 fun v H1 k1 o1 r => hg q σ H1 env δ1 v x env' _ o1 r e2 fun σ' _ _ k2 => ko σ' H1 k2
theorem d_asg {tg : TG} {gd : GT} {x : Expr} {ts : List Nat} (he : DS X e te f) (hg : DG X x tg gd ts) (hs : swapsWithSole [x] e pos.line X.env = pure false := by rfl) (hw : swappedStores [x] e X.env = pure none := by rfl)
    (h1 : (assignEach [x] X.env).map (·.2) = [assign x X.env] := by rfl) : DSt X (.Assign [x] e pos) (tAsg te tg) (gAsg gd f) := ⟨ps_asg he.p hg.p hs hw h1, rs_asg he.r hg.r⟩
theorem d_set (i : Nat) {x : Expr} (he : DS X e te f) (h : ∀ {te : TE}, PE X e te → PS X (.Assign [x] e pos) (tAsg te (gName i))) : DSt X (.Assign [x] e pos) (tAsg te (gName i)) (gAsg (tgName i) f) := ⟨h he.p, rs_asg he.r (rg_name i)⟩
/-! lists that are filled -/
def RF (K : PySem.W.Frag) (mg : Str → Option Value) (t : TE) (f : EA) : Prop := ∀ (q : Fm) (σ : St) (H : Hp) (env : Ev) (δ : List Int) (l : List Dat) (δ' : List Int) (Q : VK), Ok K mg q σ H env δ → f env δ = some (l, δ') →
  (∀ p H', Keep (isD q.d) H H' → (∀ l', (p, l') ∉ q.go) → Ok K mg (q.withGo p l) σ H' env δ' → Q (.ref p) H') → t σ H Q
structure DF (X : Cx) (e : Expr) (t : TE) (f : EA) : Prop where
  p : PE X e t
  r : RF X.K X.mg t f
def eF (f : EA) : E := fun env δ => (f env δ).map fun r => (.lst r.1, r.2)
theorem DF.s {fa : EA} (h : DF X e te fa) : DS X e te (eF fa) := by
  refine ⟨h.p, fun q σ H env δ x δ' Q k ef kq => ?_⟩
  unfold eF at ef
  cases e1 : fa env δ with
  | none => rw [e1] at ef; cases ef
  | some r1 =>
    rw [e1] at ef
    cases ef
    refine h.r q σ H env δ r1.1 r1.2 _ k e1 fun p H1 k1 hp o1 => ?_
    obtain ⟨o2, r⟩ := o1.popGo hp
    exact kq _ H1 k1 o2 r
def fLst (fr : EA) : EA := fun env δ => (fr env δ).bind fun r => if r.1.length < 1000000 then some r else none
theorem d_lstF {tr : TA} {fr : EA} (hr : DA X es tr fr) : DF X (.List es pos) (tLst tr) (fLst fr) := by
  refine ⟨pe_lst hr.p, fun q σ H env δ x δ' Q k ef kq => ?_⟩
  unfold fLst at ef
  cases e1 : fr env δ with
  | none => rw [e1] at ef; cases ef
  | some r1 =>
    obtain ⟨ys, δ1⟩ := r1
    rw [e1] at ef
    simp only [Option.bind_some] at ef
    split at ef
    · rename_i hl
      cases ef
      refine hr.r q σ H env δ _ _ _ k e1 fun vs H1 k1 o1 r1 => ⟨by rw [r1.length]; exact le_line hl, fun p hp => ?_⟩
      obtain ⟨o2, h2⟩ := o1.pushGo hp r1
      exact kq p _ (k1.trans (.fresh hp)) h2 o2
    · cases ef
def gOwn (i : Nat) (fa : EA) : Sg := fun env δ => (fa env δ).map fun r => .nx (env.set i (.own (.lst, r.1))) r.2
theorem d_own (i : Nat) {x : Expr} {fa : EA} (he : DF X e te fa) (h : ∀ {te : TE}, PE X e te → PS X (.Assign [x] e pos) (tAsg te (gName i))) : DSt X (.Assign [x] e pos) (tAsg te (gName i)) (gOwn i fa) := by
  refine ⟨h he.p, fun q σ H env δ o D k ef ko => ?_⟩
  unfold gOwn at ef
  cases e1 : fa env δ with
  | none => rw [e1] at ef; cases ef
  | some r1 =>
    rw [e1] at ef
    cases ef
    exact he.r q σ H env δ r1.1 r1.2 _ k e1 fun p H1 k1 hp o1 => ko _ H1 (o1.goOwn hp i)
def gAppend (i : Nat) (f : E) : Sg := fun env δ => (f env δ).bind fun r => match env[i]? with
  | some (.own (.lst, l)) => if l.length < 1000000 then some (.nx (env.set i (.own (.lst, (l ++ [r.1])))) r.2) else none
  | _ => none
theorem d_append (i : Nat) (he : DS X e te f) (h : ∀ {tr : TA}, PA X [e] tr → PS X st (tDrop (tBM X.K "list" rAppend (tVar i) tr))) (hs : starEach [e] X.env = (false, eval e X.env) :: starEach [] X.env := by rfl) : DSt X st (tDrop (tBM X.K "list" rAppend (tVar i) (tCons te tNil))) (gAppend i f) := by
  refine ⟨h (pa_cons he.p pa_nil hs), fun q σ H env δ o D k ef ko => ?_⟩
  unfold gAppend at ef
  cases e1 : f env δ with
  | none => rw [e1] at ef; cases ef
  | some r1 =>
    obtain ⟨y, δ1⟩ := r1
    rw [e1] at ef
    simp only [Option.bind_some] at ef
    split at ef
    · rename_i l hl
      split at ef
      · rename_i hz
        cases ef
        obtain ⟨a, vs, s1, g1, g3, gr⟩ := k.owL i l hl
        refine ⟨.ref a, s1, .inl ⟨rfl, vs, .of g3⟩, ?_⟩
        refine he.r q σ H env δ y _ _ k e1 fun v H1 k1 o1 r => ?_
        obtain ⟨a', vs', s1', g1', g3', gr'⟩ := o1.owL i l hl
        rw [s1] at s1'
        cases s1'
        refine ⟨a, vs', v, rfl, rfl, g3', by rw [gr'.length]; exact lt_line hz, ?_⟩
        exact ko σ _ (o1.ownUpd hl s1 (gr'.append (.cons r .nil)))
      · cases ef
    · cases ef
theorem RpA.dropLast {d : Option Addr} {N : Addr → Prop} {H : Hp} {vs : List V} {xs : List Dat} (h : RpA K mg d N H vs xs) : RpA K mg d N H vs.dropLast xs.dropLast := by
  rw [List.dropLast_eq_take, List.dropLast_eq_take, h.length]
  exact RpA.take _ h
/-- x.pop() -/
def gPop (i : Nat) : Sg := fun env δ => match env[i]? with
  | some (.own (.lst, l)) => if l = [] then none else some (.nx (env.set i (.own (.lst, l.dropLast))) δ)
  | _ => none
theorem gPop_eq (i : Nat) : gPop i = fun env δ => match env[i]? with
  | some (.own (.lst, [])) => none
  | some (.own (.lst, (y :: l))) => some (.nx (env.set i (.own (.lst, (y :: l).dropLast))) δ)
  | _ => none := by
  funext env δ
  unfold gPop
  split
  · rename_i l h
    cases l <;> simp [h]
  · rename_i h
    split
    · rename_i h2; exact absurd h2 (h _)
    · rename_i h2; exact absurd h2 (h _)
    · rfl
theorem d_pop (i : Nat) (h : PS X st (tDrop (tBM0 X.K "list" rPop (tVar i)))) : DSt X st (tDrop (tBM0 X.K "list" rPop (tVar i))) (gPop i) := by
  refine ⟨h, fun q σ H env δ o D k ef ko => ?_⟩
  unfold gPop at ef
  split at ef
  · rename_i l hl
    split at ef
    · cases ef
    · rename_i hne
      cases ef
      obtain ⟨a, vs, s1, g1, g3, gr⟩ := k.owL i l hl
      have hlen := gr.length
      have hpos : 0 < vs.length := by
        rw [hlen]
        exact List.length_pos_iff.mpr hne
      exact ⟨.ref a, s1, .inl ⟨rfl, vs, .of g3⟩, a, vs, vs[vs.length - 1], rfl, rfl, g3, List.getElem?_eq_getElem (by omega), ko σ _ (k.ownUpd hl s1 gr.dropLast)⟩
  · cases ef
/-- from here on a value -/
def gFreeze (i : Nat) (g : Sg) : Sg := fun env δ => match env[i]? with
  | some (.own (.lst, l)) => g (env.set i (.val (.lst l))) δ
  | _ => none
theorem d_freeze (i : Nat) (h : DSs X sts t g) : DSs X sts t (gFreeze i g) := by
  refine ⟨h.p, fun q σ H env δ o D k ef ko => ?_⟩
  unfold gFreeze at ef
  split at ef
  · rename_i l hl
    exact h.r q σ H _ δ o D (k.freeze hl) ef ko
  · cases ef
/-! while -/
def whileD (c : ET) (b : Sg) : Nat → Sg
  | 0 => fun _ _ => none
  | n + 1 => fun env δ => (c env δ).bind fun r => if r.1 = true then (b env r.2).bind fun o => match o with
      | .nx env' δ' => whileD c b n env' δ'
      | .ct env' δ' => whileD c b n env' δ'
      | .bk env' δ' => some (.nx env' δ')
      | .rt x δ' => some (.rt x δ')
    else some (.nx env r.2)
theorem d_while (n : Nat) {body : List Stmt} (hp : PassesOwn (model X.prog X.w) X.A X.env X.xe) (hc : DT X c tc fc) (hb : DSs X body t g) : DSt X (.While c body [] pos) (tWhile tc t) (whileD fc g n) := by
  refine ⟨ps_while hp hc.p hb.p, fun q σ H env δ o D k ef ko => ?_⟩
  refine ⟨fun m σ H => ∃ env δ, Ok X.K X.mg q σ H env δ ∧ whileD fc g m env δ = some o, ⟨n, env, δ, k, ef⟩, fun m σ H ⟨env, δ, k, ef⟩ => ?_⟩
  cases m with
  | zero => cases ef
  | succ m =>
    unfold whileD at ef
    cases e1 : fc env δ with
    | none => rw [e1] at ef; cases ef
    | some r1 =>
      obtain ⟨x, δ1⟩ := r1
      rw [e1] at ef
      refine hc.r q σ H env δ x δ1 _ k e1 fun H1 k1 o1 => ?_
      cases x with
      | false =>
        cases ef
        exact ko σ H1 o1
      | true =>
        simp only [Option.bind_some, if_true] at ef
        rw [if_pos rfl]
        refine ⟨fun σ' H' => ∃ env δ, Ok X.K X.mg q σ' H' env δ ∧ whileD fc g m env δ = some o, fun σ' H' h => ⟨m, Nat.lt_succ_self m, h⟩, ?_⟩
        cases e2 : g env δ1 with
        | none => rw [e2] at ef; cases ef
        | some o2 =>
          rw [e2] at ef
          refine hb.r q σ H1 env δ1 o2 _ o1 e2 ?_
          cases o2 with
          | nx env' δ' => exact fun σ' H' k' => ⟨env', δ', k', ef⟩
          | ct env' δ' => exact fun σ' H' k' => ⟨env', δ', k', ef⟩
          | bk env' δ' =>
            cases ef
            exact ko
          | rt x δ' =>
            cases ef
            exact ko
/-! what a for walks -/
structure Src (K : PySem.W.Frag) (mg : Str → Option Value) (d : Option Addr) (J : It) (gv : List V) (gx : List Dat) (xs : List Dat) : Prop where
  len : gv.length = gx.length
  go : ∀ N H i, RpA K mg d N H gv gx → i < xs.length → J.go i H
  stop : ∀ N H, RpA K mg d N H gv gx → J.stop xs.length H
  yld : ∀ N H i v H', RpA K mg d N H gv gx → J.yld i H v H' → Same H H' ∧ ∀ x, xs[i]? = some x → Rp K mg d N H' v x
def RI (K : PySem.W.Frag) (mg : Str → Option Value) (wi : TI) (f : EA) : Prop := ∀ (q : Fm) (σ : St) (H : Hp) (env : Ev) (δ : List Int) (xs : List Dat) (δ' : List Int) (R : It → Hp → Prop), Ok K mg q σ H env δ → f env δ = some (xs, δ') →
  (∀ J H' gv gx, Keep (isD q.d) H H' → Src K mg q.d J gv gx xs → Ok K mg (q.withGh gv gx) σ H' env δ' → R J H') → wi σ H R
structure DI (X : Cx) (tg iter : Expr) (wi : TI) (f : EA) : Prop where
  p : PI X tg iter wi
  r : RI X.K X.mg wi f
variable {tg : Expr} {wi : TI} {fi : EA}
def iLst (f : E) : EA := fun env δ => (f env δ).bind fun r => match r.1 with
  | .lst xs => some (xs, r.2)
  | _ => none
theorem d_ilist (he : DS X e te f) : DI X tg e (iList X.K te) (iLst f) := by
  refine ⟨pi_list he.p, fun q σ H env δ xs δ' R k ef kr => ?_⟩
  unfold iLst at ef
  cases e1 : f env δ with
  | none => rw [e1] at ef; cases ef
  | some r1 =>
    obtain ⟨x, δ1⟩ := r1
    rw [e1] at ef
    cases x with
    | lst ys =>
      cases ef
      refine he.r q σ H env δ (.lst xs) _ _ k e1 fun v H1 k1 o1 r => ?_
      cases r with
      | lst h1 h2 h3 =>
        rename_i a vs
        refine ⟨a, rfl, ⟨vs, .of h1⟩, kr _ H1 [.ref a] [.lst xs] k1 ⟨rfl, fun N H i h hi => ?_, fun N H h => ?_, fun N H i v H' h y => ?_⟩ (o1.pushGh (.cons (.lst h1 h2 h3) .nil))⟩
        · cases h with
          | cons h _ =>
            cases h with
            | lst g1 g2 g3 =>
              obtain ⟨v, e1, _⟩ := g3.get (List.getElem?_eq_getElem hi)
              exact ⟨_, v, .of g1, e1⟩
        · cases h with
          | cons h _ =>
            cases h with
            | lst g1 g2 g3 => exact ⟨_, .of g1, by rw [g3.length]; exact Nat.le_refl _⟩
        · obtain ⟨rfl, y⟩ := y
          refine ⟨same_refl, fun x hx => ?_⟩
          cases h with
          | cons h _ =>
            cases h with
            | lst g1 g2 g3 =>
              obtain ⟨w, e1, r⟩ := g3.get hx
              rw [y _ (.of g1)] at e1
              cases e1
              exact r
    | _ => cases ef
def iTupD (f : E) : EA := fun env δ => (f env δ).bind fun r => match r.1 with
  | .tup xs => some (xs, r.2)
  | .ctup xs => some (xs, r.2)
  | _ => none
theorem d_ituple (he : DE X e te f) : DI X tg e (iTup X.K te) (iTupD f) := by
  refine ⟨pi_tup he.p, fun q σ H env δ xs δ' R k ef kr => ?_⟩
  unfold iTupD at ef
  cases e1 : f env δ with
  | none => rw [e1] at ef; cases ef
  | some r1 =>
    obtain ⟨x, δ1⟩ := r1
    rw [e1] at ef
    cases x with
    | tup ys =>
      cases ef
      refine he.r q σ H env δ (.tup xs) _ _ k e1 fun v H1 k1 o1 r => ?_
      cases r with
      | tup h1 h3 =>
        rename_i a vs
        refine ⟨a, rfl, ⟨vs, .of h1⟩, kr _ H1 [.ref a] [.tup xs] k1 ⟨rfl, fun N H i h hi => ?_, fun N H h => ?_, fun N H i v H' h y => ?_⟩ (o1.pushGh (.cons (.tup h1 h3) .nil))⟩
        · cases h with
          | cons h _ =>
            cases h with
            | tup g1 g3 =>
              obtain ⟨v, e1, _⟩ := g3.get (List.getElem?_eq_getElem hi)
              exact ⟨_, v, .of g1, e1⟩
        · cases h with
          | cons h _ =>
            cases h with
            | tup g1 g3 => exact ⟨_, .of g1, by rw [g3.length]; exact Nat.le_refl _⟩
        · obtain ⟨rfl, y⟩ := y
          refine ⟨same_refl, fun x hx => ?_⟩
          cases h with
          | cons h _ =>
            cases h with
            | tup g1 g3 =>
              obtain ⟨w, e1, r⟩ := g3.get hx
              rw [y _ (.of g1)] at e1
              cases e1
              exact r
    | ctup ys =>
      cases ef
      refine he.r q σ H env δ (.ctup xs) _ _ k e1 fun v H1 k1 o1 r => ?_
      cases r with
      | ctup h1 h3 =>
        rename_i a vs
        refine ⟨a, rfl, ⟨vs, h1⟩, kr _ H1 [.ref a] [.ctup xs] k1 ⟨rfl, fun N H i h hi => ?_, fun N H h => ?_, fun N H i v H' h y => ?_⟩ (o1.pushGh (.cons (.ctup h1 h3) .nil))⟩
        · cases h with
          | cons h _ =>
            cases h with
            | ctup g1 g3 =>
              obtain ⟨v, e1, _⟩ := g3.get (List.getElem?_eq_getElem hi)
              exact ⟨_, v, g1, e1⟩
        · cases h with
          | cons h _ =>
            cases h with
            | ctup g1 g3 => exact ⟨_, g1, by rw [g3.length]; exact Nat.le_refl _⟩
        · obtain ⟨rfl, y⟩ := y
          refine ⟨same_refl, fun x hx => ?_⟩
          cases h with
          | cons h _ =>
            cases h with
            | ctup g1 g3 =>
              obtain ⟨w, e1, r⟩ := g3.get hx
              rw [y _ g1] at e1
              cases e1
              exact r
    | _ => cases ef
def iStrD (f : E) : EA := fun env δ => (f env δ).bind fun r => match r.1 with
  | .str z => some (z.cps.toList.map fun c => .str ⟨#[c]⟩, r.2)
  | _ => none
theorem d_istr (he : DE X e te f) : DI X tg e (iStr te) (iStrD f) := by
  refine ⟨pi_str he.p, fun q σ H env δ xs δ' R k ef kr => ?_⟩
  unfold iStrD at ef
  cases e1 : f env δ with
  | none => rw [e1] at ef; cases ef
  | some r1 =>
    obtain ⟨x, δ1⟩ := r1
    rw [e1] at ef
    cases x with
    | str z =>
      cases ef
      refine he.r q σ H env δ (.str z) _ _ k e1 fun v H1 k1 o1 r => ?_
      cases r
      refine ⟨z, rfl, kr _ H1 [] [] k1 ⟨rfl, fun N H i h hi => ?_, fun N H h => ?_, fun N H i v H' h y => ?_⟩ (o1.pushGh .nil)⟩
      · show i < z.cps.size
        simpa using hi
      · show z.cps.size ≤ _
        simp
      · obtain ⟨rfl, c, hc, rfl⟩ := y
        refine ⟨same_refl, fun x hx => ?_⟩
        rw [List.getElem?_map, Array.getElem?_toList, hc] at hx
        cases hx
        exact .str _
    | _ => cases ef
def rangeD (lo hi : Int) : List Dat := (List.range (hi - lo).toNat).map fun i => .int (lo + (i : Nat))
def bnd (i : Int) : Bool := decide (-(2 ^ 62) ≤ i) && decide (i < 2 ^ 62)
def iR1 (fr : EA) : EA := fun env δ => (fr env δ).bind fun r => match r.1 with
  | [.int j] => if bnd j = true then some (rangeD 0 j, r.2) else none
  | _ => none
def iR2 (fr : EA) : EA := fun env δ => (fr env δ).bind fun r => match r.1 with
  | [.int i, .int j] => if (bnd i && bnd j) = true then some (rangeD i j, r.2) else none
  | _ => none
theorem src_range {d : Option Addr} (lo hi : Int) : Src K mg d (Itr lo (hi - lo).toNat) [] [] (rangeD lo hi) := by
  refine ⟨rfl, fun N H i h hlt => ?_, fun N H h => ?_, fun N H i v H' h y => ?_⟩
  · unfold rangeD at hlt
    rw [List.length_map, List.length_range] at hlt
    exact hlt
  · show (hi - lo).toNat ≤ _
    unfold rangeD
    simp
  · obtain ⟨rfl, rfl⟩ := y
    refine ⟨same_refl, fun x hx => ?_⟩
    unfold rangeD at hx
    rw [List.getElem?_map] at hx
    by_cases hlt : i < (hi - lo).toNat
    · rw [List.getElem?_range hlt] at hx
      cases hx
      exact .int _
    · rw [List.getElem?_eq_none (by rw [List.length_range]; omega)] at hx
      cases hx
variable {p' : Pos} {tr : TA} {fr : EA}
theorem d_irange1 (hg : Gl X "range") (hm : X.mg "range" = none) (ha : DAB X [a] tr fr) (hs : starEach [a] X.env = [(false, eval a X.env)] := by rfl) : DI X tg (.Call (.Name "range" p') [a] [] pos) (iRng1 tr) (iR1 fr) := by
  refine ⟨pi_range1 hg hm ha.p hs, fun q σ H env δ xs δ' R k ef kr => ?_⟩
  unfold iR1 at ef
  cases e1 : fr env δ with
  | none => rw [e1] at ef; cases ef
  | some r1 =>
    obtain ⟨x, δ1⟩ := r1
    rw [e1] at ef
    simp only [Option.bind_some] at ef
    split at ef
    · rename_i j
      split at ef
      · rename_i hb
        cases ef
        unfold bnd at hb
        simp only [Bool.and_eq_true, decide_eq_true_eq] at hb
        refine ha.r q σ H env δ _ _ _ k e1 fun vs H1 k1 o1 r => ?_
        match vs, r with
        | [v], ⟨r, _⟩ =>
          cases r
          refine ⟨j, rfl, hb.1, hb.2, ?_⟩
          have := src_range (K := X.K) (mg := X.mg) (d := q.d) 0 j
          rw [Int.sub_zero] at this
          exact kr _ H1 [] [] k1 this (o1.pushGh .nil)
      · cases ef
    · cases ef
theorem d_irange2 (hg : Gl X "range") (hm : X.mg "range" = none) (ha : DAB X [a, b] tr fr) (hs : starEach [a, b] X.env = [(false, eval a X.env), (false, eval b X.env)] := by rfl) (hs2 : starEach [b] X.env = [(false, eval b X.env)] := by rfl) : DI X tg (.Call (.Name "range" p') [a, b] [] pos) (iRng2 tr) (iR2 fr) := by
  refine ⟨pi_range2 hg hm ha.p hs hs2, fun q σ H env δ xs δ' R k ef kr => ?_⟩
  unfold iR2 at ef
  cases e1 : fr env δ with
  | none => rw [e1] at ef; cases ef
  | some r1 =>
    obtain ⟨x, δ1⟩ := r1
    rw [e1] at ef
    simp only [Option.bind_some] at ef
    split at ef
    · rename_i i j
      split at ef
      · rename_i hb
        cases ef
        unfold bnd at hb
        simp only [Bool.and_eq_true, decide_eq_true_eq] at hb
        refine ha.r q σ H env δ _ _ _ k e1 fun vs H1 k1 o1 r => ?_
        match vs, r with
        | [v, w], ⟨r, r2, _⟩ =>
          cases r
          cases r2
          exact ⟨i, j, rfl, ⟨hb.1.1, hb.1.2, hb.2.1, hb.2.2⟩, kr _ H1 [] [] k1 (src_range i j) (o1.pushGh .nil)⟩
      · cases ef
    · cases ef
/-! for -/
def forD (gd : GT) (b : Sg) : List Dat → Sg
  | [] => fun env δ => some (.nx env δ)
  | x :: xs => fun env δ => (gd x env).bind fun env1 => (b env1 δ).bind fun o => match o with
      | .nx env' δ' => forD gd b xs env' δ'
      | .ct env' δ' => forD gd b xs env' δ'
      | .bk env' δ' => some (.nx env' δ')
      | .rt x δ' => some (.rt x δ')
def gFor (fi : EA) (gd : GT) (b : Sg) : Sg := fun env δ => (fi env δ).bind fun r => forD gd b r.1 env r.2
theorem d_for {tgd : TG} {gd : GT} {ts : List Nat} {body : List Stmt} (hp : PassesOwn (model X.prog X.w) X.A X.env X.xe) (hc : X.calm = true) (hi : DI X tg e wi fi) (hg : DG X tg tgd gd ts) (hb : DSs X body t g)
    (hs : ∀ x, foldedSetIterable e X.env x = pure x := by intro _; rfl) : DSt X (.For tg e body [] pos) (tFor wi tgd t) (gFor fi gd g) := by
  refine ⟨ps_for hp hc hi.p hg.p hb.p hs, fun q σ H env δ o D k ef ko => ?_⟩
  unfold gFor at ef
  cases e1 : fi env δ with
  | none => rw [e1] at ef; cases ef
  | some r1 =>
    obtain ⟨xs, δ1⟩ := r1
    rw [e1] at ef
    simp only [Option.bind_some] at ef
    refine hi.r q σ H env δ xs δ1 _ k e1 fun J H1 gv gx k1 S o1 => ?_
    refine ⟨fun i m σ H => m = xs.length - i ∧ i ≤ xs.length ∧ ∃ env δ, Ok X.K X.mg (q.withGh gv gx) σ H env δ ∧ forD gd g (xs.drop i) env δ = some o, ⟨xs.length, by simp, Nat.zero_le _, env, δ1, o1, ef⟩, ?_⟩
    rintro i m σ H ⟨rfl, hi', env, δ, k, ef⟩
    obtain ⟨k0, rg⟩ := k.popGh S.len
    by_cases hlt : i < xs.length
    · rw [List.drop_eq_getElem_cons hlt] at ef
      refine .inr ⟨S.go _ _ i rg hlt, fun σ' H' => ∃ env δ, Ok X.K X.mg (q.withGh gv gx) σ' H' env δ ∧ forD gd g (xs.drop (i + 1)) env δ = some o, fun σ' H' h => ⟨xs.length - (i + 1), by omega, rfl, hlt, h⟩, fun v H' y => ?_⟩
      obtain ⟨s, ry⟩ := S.yld _ _ i v H' rg y
      have rx := ry _ (List.getElem?_eq_getElem hlt)
      unfold forD at ef
      cases e2 : gd xs[i] env with
      | none => rw [e2] at ef; cases ef
      | some env1 =>
        rw [e2] at ef
        refine hg.r (q.withGh gv gx) σ H' env δ v xs[i] env1 _ (k.grow s) rx e2 fun σ2 _ _ k2 => ?_
        simp only [Option.bind_some] at ef
        cases e3 : g env1 δ with
        | none => rw [e3] at ef; cases ef
        | some o3 =>
          rw [e3] at ef
          refine hb.r (q.withGh gv gx) σ2 H' env1 δ o3 _ k2 e3 ?_
          cases o3 with
          | nx env' δ' => exact fun σ' H' k' => ⟨env', δ', k', ef⟩
          | ct env' δ' => exact fun σ' H' k' => ⟨env', δ', k', ef⟩
          | bk env' δ' =>
            cases ef
            exact fun σ' H' k' => ko σ' H' (k'.popGh S.len).1
          | rt x δ' =>
            cases ef
            exact ko
    · have e' : i = xs.length := by omega
      subst e'
      rw [List.drop_length] at ef
      cases ef
      exact .inl ⟨S.stop _ _ rg, ko σ H k0⟩
end
end Dl

namespace Dl
open PySem PySem.Spec L2
/-! ### 6. Comprehensions -/
def wipeE (env : Ev) : List Nat → Ev
  | [] => env
  | v :: vs => (wipeE env vs).set v .un
theorem get_wipe (σ : St) : ∀ (vs : List Nat) (j : Nat), (wipe σ vs)[j]? = if j ∈ vs then (if j < σ.length then some none else none) else σ[j]?
  | [], j => by simp [wipe]
  | v :: vs, j => by
    unfold wipe
    by_cases e : v = j
    · subst e
      by_cases hl : v < σ.length
      · rw [List.getElem?_set_self (by rw [wipe_length]; exact hl)]
        simp [hl]
      · rw [List.getElem?_eq_none (by rw [List.length_set, wipe_length]; omega)]
        simp [hl]
    · rw [List.getElem?_set_ne e, get_wipe σ vs j]
      have : j ≠ v := fun z => e z.symm
      simp [this]
theorem len_wipeE (env : Ev) : ∀ vs : List Nat, (wipeE env vs).length = env.length
  | [] => rfl
  | v :: vs => by unfold wipeE; rw [List.length_set, len_wipeE env vs]
theorem get_wipeE (env : Ev) : ∀ (vs : List Nat) (j : Nat), (wipeE env vs)[j]? = if j ∈ vs then (if j < env.length then some .un else none) else env[j]?
  | [], j => by simp [wipeE]
  | v :: vs, j => by
    unfold wipeE
    by_cases e : v = j
    · subst e
      by_cases hl : v < env.length
      · rw [List.getElem?_set_self (by rw [len_wipeE]; exact hl)]
        simp [hl]
      · rw [List.getElem?_eq_none (by rw [List.length_set, len_wipeE]; omega)]
        simp [hl]
    · rw [List.getElem?_set_ne e, get_wipeE env vs j]
      have : j ≠ v := fun z => e z.symm
      simp [this]
theorem wipe_ag {σ σ' : St} {ts vs : List Nat} (h : Ag ts (wipe σ vs) σ') (hs : ∀ j ∈ ts, j ∈ vs) : wipe σ' vs = wipe σ vs := by
  refine List.ext_getElem? fun j => ?_
  rw [get_wipe, get_wipe]
  have hl : σ'.length = σ.length := h.1.trans (wipe_length σ vs)
  by_cases hj : j ∈ vs
  · simp [hj, hl]
  · have := h.2 j fun z => hj (hs j z)
    rw [get_wipe] at this
    simp [hj] at this
    simp [hj, this]
section
variable {X : Cx} {e a b c elt iter tg : Expr} {es ifs : List Expr} {t ta tb te : TE} {f g fe : E} {ft : ET} {fi fr : EA} {gd : GT} {tgd : TG} {tt : TT} {wi : TI} {ts : List Nat} {tr : TA} {pos : Pos} {K : PySem.W.Frag} {mg : Str → Option Value}
theorem Ok.wiped {q : Fm} {H : Hp} {σ : St} {env : Ev} {δ : List Int} (k : Ok K mg q σ H env δ) : ∀ vs : List Nat, Ok K mg q (wipe σ vs) H (wipeE env vs) δ
  | [] => k
  | v :: vs => (Ok.wiped k vs).unset v
def noOwn (env : Ev) (vs : List Nat) : Bool := vs.all fun i => match env[i]? with
  | some (.own _) => false
  | _ => true
structure DTs (X : Cx) (ifs : List Expr) (t : TT) (f : ET) : Prop where
  p : PTs X ifs t
  r : RT X.K X.mg t f
def eYes : ET := fun _ δ => some (true, δ)
theorem d_tsnil : DTs X [] tYes eYes := ⟨pts_nil, fun q σ H env δ x δ' Q k ef kq => by cases ef; exact kq H .refl k⟩
theorem d_tsone (h : DT X e tt ft) : DTs X [e] tt ft := ⟨pts_one h.p, h.r⟩
def lcD (gd : GT) (ft : ET) (fe : E) (env : Ev) : List Dat → List Int → Option (List Dat × List Int)
  | [], δ => some ([], δ)
  | x :: xs, δ => (gd x env).bind fun e1 => (ft e1 δ).bind fun r => if r.1 = true then (fe e1 r.2).bind fun y => (lcD gd ft fe env xs y.2).map fun u => (y.1 :: u.1, u.2) else lcD gd ft fe env xs r.2
def fLc (fi : EA) (gd : GT) (ft : ET) (fe : E) (vs : List Nat) : EA := fun env δ => (fi env δ).bind fun r =>
  if (decide (r.1.length < 1000000) && noOwn env vs) = true then lcD gd ft fe (wipeE env vs) r.1 r.2 else none
theorem nn_back {q : Fm} {σ σ' : St} {env env' : Ev} {vs ts : List Nat} (hv : noOwn env vs = true) (hs : ∀ j ∈ ts, j ∈ vs) (a1 : Ag ts (wipe σ vs) σ') (a2 : Ag ts (wipeE env vs) env') {b : Addr} (h : NN q σ env b) : NN q σ' env' b := by
  rcases h with h | h | ⟨i, l, h1, h2⟩
  · exact .inl h
  · exact .inr (.inl h)
  · have hi : i ∉ vs := fun z => by
      have := List.all_eq_true.mp hv i z
      rw [h1] at this
      cases this
    refine .inr (.inr ⟨i, l, ?_, ?_⟩)
    · rw [a2.2 i fun z => hi (hs i z), get_wipeE]
      simp [hi, h1]
    · rw [a1.2 i fun z => hi (hs i z), get_wipe]
      simp [hi, h2]
theorem rf_lc {vs : List Nat} (hi : RI K mg wi fi) (hg : RG K mg tgd gd ts) (ht : RT K mg tt ft) (he : RS K mg te fe) (hs : ∀ j ∈ ts, j ∈ vs) : RF K mg (tLc wi tgd tt te vs) (fLc fi gd ft fe vs) := by
  intro q σ H env δ l δ' Q k ef kq
  unfold fLc at ef
  cases e1 : fi env δ with
  | none => rw [e1] at ef; cases ef
  | some r1 =>
    obtain ⟨xs, δ1⟩ := r1
    rw [e1] at ef
    simp only [Option.bind_some] at ef
    split at ef
    rotate_left
    · cases ef
    rename_i hc
    rw [Bool.and_eq_true, decide_eq_true_eq] at hc
    obtain ⟨hz, hv⟩ := hc
    refine hi q σ H env δ xs δ1 _ k e1 fun J H1 gv gx k1 S o1 D hD => ?_
    obtain ⟨o2, hDq⟩ := o1.pushGo (l := []) (vs := []) hD .nil
    have hDq' : ∀ l', (D, l') ∉ q.go := hDq
    have hDn : H D = none := by
      cases z : H D with
      | none => rfl
      | some o => exact absurd hD (k1.there z fun hd z => by
          have := o1.dc D hd
          rw [z] at this; cases this)
    refine ⟨fun i m H' => m = xs.length - i ∧ i ≤ xs.length ∧ Keep (isD q.d) H H' ∧ ∃ acc δi u, Ok K mg ((q.withGh gv gx).withGo D acc) σ H' env δi ∧ acc.length ≤ i ∧ lcD gd ft fe (wipeE env vs) (xs.drop i) δi = some (u, δ') ∧ acc ++ u = l,
      ⟨xs.length, by simp, Nat.zero_le _, k1.trans (.fresh hD), [], δ1, l, o2, Nat.zero_le _, ef, rfl⟩, ?_⟩
    rintro i m H2 ⟨rfl, hile, kk, acc, δi, u, k2, hal, el, eu⟩
    have gh2 := (Ok.popGh S.len (q := q.withGo D acc) ⟨k2.kp, k2.dc, k2.dm, k2.md, k2.ln, k2.sf, k2.vl, k2.ow, k2.ds, k2.gh, k2.go⟩).2
    by_cases hlt : i < xs.length
    · rw [List.drop_eq_getElem_cons hlt] at el
      refine .inr ⟨S.go _ _ i gh2 hlt, fun H' => Keep (isD q.d) H H' ∧ ∃ acc δi u, Ok K mg ((q.withGh gv gx).withGo D acc) σ H' env δi ∧ acc.length ≤ i + 1 ∧ lcD gd ft fe (wipeE env vs) (xs.drop (i + 1)) δi = some (u, δ') ∧ acc ++ u = l,
        fun H' h => ⟨xs.length - (i + 1), by omega, rfl, hlt, h.1, h.2⟩, fun v H3 y => ?_⟩
      obtain ⟨s, ry⟩ := S.yld _ _ i v H3 gh2 y
      have rx := ry _ (List.getElem?_eq_getElem hlt)
      unfold lcD at el
      cases e2 : gd xs[i] (wipeE env vs) with
      | none => rw [e2] at el; cases el
      | some env1 =>
        rw [e2] at el
        simp only [Option.bind_some] at el
        have k3 : Ok K mg ((q.withGh gv gx).withGo D acc) σ H3 env δi := k2.grow s
        have k3w := k3.wiped vs
        have rx' : Rp K mg q.d (NN ((q.withGh gv gx).withGo D acc) (wipe σ vs) (wipeE env vs)) H3 v xs[i] := by
          refine Rp.keep .refl (fun b z => .inl ?_) _ _ rx
          rcases z with z | z | ⟨j, l', z1, z2⟩
          · exact .inl z
          · exact .inr (.inl z)
          · rw [get_wipeE] at z1
            rw [get_wipe] at z2
            by_cases hj : j ∈ vs
            · rw [if_pos hj] at z1
              split at z1 <;> cases z1
            · rw [if_neg hj] at z1 z2
              exact .inr (.inr ⟨j, l', z1, z2⟩)
        refine hg ((q.withGh gv gx).withGo D acc) (wipe σ vs) H3 (wipeE env vs) δi v xs[i] env1 _ k3w rx' e2 fun σ2 a1 a2 k4 => ⟨wipe_ag a1 hs, ?_⟩
        cases e3 : ft env1 δi with
        | none => rw [e3] at el; cases el
        | some r3 =>
          obtain ⟨bb, δ3⟩ := r3
          rw [e3] at el
          refine ht _ σ2 H3 env1 δi bb δ3 _ k4 e3 fun H4 k5 o5 => ?_
          cases bb with
          | false =>
            rw [if_neg Bool.false_ne_true]
            simp only [Option.bind_some, Bool.false_eq_true, if_false] at el
            exact ⟨kk.trans ((Keep.of_same s).trans k5), acc, δ3, u, k3.step k5 o5.dc, by omega, el, eu⟩
          | true =>
            rw [if_pos rfl]
            simp only [Option.bind_some, if_true] at el
            cases e4 : fe env1 δ3 with
            | none => rw [e4] at el; cases el
            | some r4 =>
              obtain ⟨yy, δ4⟩ := r4
              rw [e4] at el
              simp only [Option.bind_some] at el
              cases e5 : lcD gd ft fe (wipeE env vs) (xs.drop (i + 1)) δ4 with
              | none => rw [e5] at el; cases el
              | some r5 =>
                obtain ⟨uu, δ5⟩ := r5
                rw [e5] at el
                cases el
                refine he _ σ2 H4 env1 δ3 yy δ4 _ o5 e4 fun w H5 k6 o6 r6 => ?_
                have k7 : Ok K mg ((q.withGh gv gx).withGo D acc) σ H5 env δ4 := k3.step (k5.trans k6) o6.dc
                obtain ⟨_, ⟨ws, g3, gr⟩, _⟩ := k7.go D acc List.mem_cons_self
                have r7 : Rp K mg q.d (NN ((q.withGh gv gx).withGo D acc) σ env) H5 w yy := Rp.keep .refl (fun b z => .inl (nn_back hv hs a1 a2 z)) _ _ r6
                refine ⟨ws, g3, by rw [gr.length]; exact lt_line (by omega), ?_⟩
                have k8 := k7.growGo (q := q.withGh gv gx) hDq g3 r7
                refine ⟨?_, acc ++ [yy], δ4, uu, k8, by simp; omega, e5, by simp [eu]⟩
                exact (kk.trans ((Keep.of_same s).trans (k5.trans k6))).off hDn g3 rfl rfl
    · have e' : i = xs.length := by omega
      subst e'
      rw [List.drop_length] at el
      cases el
      rw [List.append_nil] at eu
      subst eu
      refine .inl ⟨S.stop _ _ gh2, ?_⟩
      refine kq D H2 kk hDq' (Ok.popGh S.len (q := q.withGo D acc) ⟨k2.kp, k2.dc, k2.dm, k2.md, k2.ln, k2.sf, k2.vl, k2.ow, k2.ds, k2.gh, k2.go⟩).1
end
end Dl

namespace Dl
open PySem PySem.Spec L2
section
variable {X : Cx} {e a b c elt iter tg : Expr} {es ifs : List Expr} {t ta tb te : TE} {f g fe : E} {ft : ET} {fi fr : EA} {gd : GT} {tgd : TG} {tt : TT} {wi : TI} {ts : List Nat} {tr : TA} {pos : Pos} {K : PySem.W.Frag} {mg : Str → Option Value}
theorem d_lc {scope : Scope} {own : List (Str × Nat)} (hc : X.calm = true) (hN : X.N.Nodup) (hi : DI X tg iter wi fi) (ok : BlkOk X.N X.env.scope scope own)
    (hg : ∀ (s : Shared) (H : Hp) (C : Addr) (cl : List (Str × Addr)) (fp : List Addr), DG (X.blk s H scope (compEnvC scope cl C X.env) fp) tg tgd gd ts)
    (ht : ∀ (s : Shared) (H : Hp) (C : Addr) (cl : List (Str × Addr)) (fp : List Addr), DTs (X.blk s H scope (compEnvC scope cl C X.env) fp) ifs tt ft)
    (he : ∀ (s : Shared) (H : Hp) (C : Addr) (cl : List (Str × Addr)) (fp : List Addr), DS (X.blk s H scope (compEnvC scope cl C X.env) fp) elt te fe)
    (hts : ∀ j ∈ ts, j ∈ own.map (·.2) := by decide) (hs : ∀ x, foldedSetIterable iter X.env x = pure x := by intro _; rfl) :
    DF X (.ListComp elt [⟨tg, iter, ifs, 0⟩] scope pos) (tLc wi tgd tt te (own.map (·.2))) (fLc fi gd ft fe (own.map (·.2))) :=
  ⟨pe_lc hc hN hi.p ok (fun s H C cl fp => (hg s H C cl fp).p) (fun s H C cl fp => (ht s H C cl fp).p) (fun s H C cl fp => (he s H C cl fp).p) hs,
   rf_lc hi.r (hg X.s_0 X.H_0 0 [] []).r (ht X.s_0 X.H_0 0 [] []).r (he X.s_0 X.H_0 0 [] []).r hts⟩

/-! ### 7. The operators by data -/
theorem refO_or {r r' : R2} {F G : Dat → Dat → Option Dat} (h : RefO K mg r F) (h' : RefO K mg r' G) : RefO K mg (fun x y H Q => r x y H Q ∨ r' x y H Q) (fun x y => (F x y).orElse fun _ => G x y) := by
  intro d N H v w x y z Q hd hN rv rw' e kq
  have e : ((F x y).orElse fun _ => G x y) = some z := e
  cases e1 : F x y with
  | none =>
    rw [e1] at e
    exact .inr (h' d N H v w x y z Q hd hN rv rw' e kq)
  | some z' =>
    rw [e1] at e
    exact .inl (h d N H v w x y z Q hd hN rv rw' (by rw [e1]; exact e) kq)
def dI (f : Int → Int → Dat) : Dat → Dat → Option Dat
  | .int i, .int j => some (f i j)
  | _, _ => none
def dIC (C : Int → Int → Bool) (f : Int → Int → Dat) : Dat → Dat → Option Dat
  | .int i, .int j => if C i j = true then some (f i j) else none
  | _, _ => none
theorem refO_int0 {gi : Int → Int → Int} : RefO K mg (rI0 fun i j => .int (gi i j)) (dI fun i j => .int (gi i j)) := by
  intro d N H v w x y z Q hd hN rv rw' e kq
  cases x <;> cases y <;> first | (cases e; done) | skip
  cases rv; cases rw'; cases e
  exact ⟨_, _, rfl, rfl, kq _ H same_refl (.int _)⟩
theorem refO_bl0 {gi : Int → Int → Bool} : RefO K mg (rI0 fun i j => .bl (gi i j)) (dI fun i j => .bl (gi i j)) := by
  intro d N H v w x y z Q hd hN rv rw' e kq
  cases x <;> cases y <;> first | (cases e; done) | skip
  cases rv; cases rw'; cases e
  exact ⟨_, _, rfl, rfl, kq _ H same_refl (.bl _)⟩
theorem refO_intC {C : Int → Int → Prop} {Cb : Int → Int → Bool} {gi : Int → Int → Int} (hC : ∀ i j, Cb i j = true → C i j) : RefO K mg (rI C fun i j => .int (gi i j)) (dIC Cb fun i j => .int (gi i j)) := by
  intro d N H v w x y z Q hd hN rv rw' e kq
  cases x <;> cases y <;> first | (cases e; done) | skip
  rename_i i j
  cases rv; cases rw'
  have e' : (if Cb i j = true then some (Dat.int (gi i j)) else none) = some z := e
  split at e'
  · rename_i hc
    cases e'
    exact ⟨_, _, rfl, rfl, hC i j hc, kq _ H same_refl (.int _)⟩
  · cases e'
def dStrAdd : Dat → Dat → Option Dat
  | .str a, .str b => if a.length + b.length < 1000000 then some (.str (a ++ b)) else none
  | _, _ => none
theorem refO_strAdd : RefO K mg (fun x y H Q => ∃ i j, x = .str i ∧ y = .str j ∧ i.length + j.length ≤ sizeLine ∧ Q (.str (i ++ j)) H) dStrAdd := by
  intro d N H v w x y z Q hd hN rv rw' e kq
  cases x <;> cases y <;> first | (cases e; done) | skip
  rename_i a b
  cases rv; cases rw'
  have e' : (if a.length + b.length < 1000000 then some (Dat.str (a ++ b)) else none) = some z := e
  split at e'
  · rename_i hc
    cases e'
    exact ⟨a, b, rfl, rfl, le_line hc, kq _ H same_refl (.str _)⟩
  · cases e'
def dLstAdd : Dat → Dat → Option Dat
  | .lst a, .lst b => if a.length + b.length < 1000000 then some (.lst (a ++ b)) else none
  | _, _ => none
theorem refO_lstAdd : RefO K mg rCat dLstAdd := by
  intro d N H v w x y z Q hd hN rv rw' e kq
  cases x <;> cases y <;> first | (cases e; done) | skip
  rename_i xs ys
  obtain ⟨a, vs, rfl, e2, _, r1⟩ := rv
  obtain ⟨b, ws, rfl, g2, _, r2⟩ := rw'
  have e' : (if xs.length + ys.length < 1000000 then some (Dat.lst (xs ++ ys)) else none) = some z := e
  split at e'
  · rename_i hc
    cases e'
    refine ⟨a, b, vs, ws, rfl, rfl, e2, g2, by rw [r1.length, r2.length]; exact le_line hc, fun p hp => ?_⟩
    have s := same_fresh (o := .lst (vs ++ ws)) hp
    exact kq _ _ s (.lst upd_same (fun z => hN p z hp) (RpA.keep (.of_same s) (fun b z => .inl z) _ _ (r1.append r2)))
  · cases e'
/-- + -/
def dAdd : Dat → Dat → Option Dat := fun x y => (dI (fun i j => .int (i + j)) x y).orElse fun _ => (dStrAdd x y).orElse fun _ => dLstAdd x y
abbrev rAddU : R2 := fun x y H Q => (rI0 fun i j => .int (i + j)) x y H Q ∨ ((fun x y H Q => ∃ i j, x = .str i ∧ y = .str j ∧ i.length + j.length ≤ sizeLine ∧ Q (.str (i ++ j)) H : R2) x y H Q ∨ rCat x y H Q)
theorem op_addU : OpR X (binaryOp .Add) rAddU := op_add.or (op_add_str.or op_cat)
theorem ref_add : RefO K mg rAddU dAdd :=
  refO_or refO_int0 (refO_or refO_strAdd refO_lstAdd)
theorem d_add (ha : DE X a ta f) (hb : DE X b tb g) : DS X (.BinOp a .Add b pos) (tOp rAddU ta tb) (eOp dAdd f g) := d_op op_addU ref_add ha hb
def dSub : Dat → Dat → Option Dat := dI fun i j => .int (i - j)
theorem d_sub (ha : DE X a ta f) (hb : DE X b tb g) : DS X (.BinOp a .Sub b pos) (tOp (rI0 fun i j => .int (i - j)) ta tb) (eOp dSub f g) := d_op op_sub refO_int0 ha hb
def mulC (i j : Int) : Bool := (decide (-(2 ^ 64) < i) && decide (i < 2 ^ 64)) || (decide (-(2 ^ 64) < j) && decide (j < 2 ^ 64))
def dMul : Dat → Dat → Option Dat := dIC mulC fun i j => .int (i * j)
theorem d_mul (ha : DE X a ta f) (hb : DE X b tb g) : DS X (.BinOp a .Mult b pos) (tOp (rI CMul fun i j => .int (i * j)) ta tb) (eOp dMul f g) := d_op op_mul (refO_intC fun i j h => by
  unfold mulC at h
  simp only [Bool.or_eq_true, Bool.and_eq_true, decide_eq_true_eq] at h
  exact h) ha hb
def dMod : Dat → Dat → Option Dat := dIC (fun _ j => decide (0 < j)) fun i j => .int (i % j)
theorem d_mod (ha : DE X a ta f) (hb : DE X b tb g) : DS X (.BinOp a .Mod b pos) (tOp (rI (fun _ j => 0 < j) fun i j => .int (i % j)) ta tb) (eOp dMod f g) := d_op op_mod (refO_intC fun i j h => of_decide_eq_true h) ha hb
def dFdiv : Dat → Dat → Option Dat := dIC (fun _ j => decide (0 < j) && decide (j < 1073741824)) fun i j => .int (i / j)
theorem d_fdiv (ha : DE X a ta f) (hb : DE X b tb g) : DS X (.BinOp a .FloorDiv b pos) (tOp (rI CDiv fun i j => .int (i / j)) ta tb) (eOp dFdiv f g) := d_op op_fdiv (refO_intC fun i j h => by
  simp only [Bool.and_eq_true, decide_eq_true_eq] at h
  exact h) ha hb
def dPow : Dat → Dat → Option Dat := dIC (fun i j => decide (0 ≤ j) && decide (j ≤ 1000000) && decide (i.natAbs < 2 ^ 64)) fun i j => .int (i ^ j.toNat)
theorem d_pow (ha : DE X a ta f) (hb : DE X b tb g) : DS X (.BinOp a .Pow b pos) (tOp (rI CPow fun i j => .int (i ^ j.toNat)) ta tb) (eOp dPow f g) := d_op op_pow (refO_intC fun i j h => by
  simp only [Bool.and_eq_true, decide_eq_true_eq] at h
  exact ⟨h.1.1, h.1.2, h.2⟩) ha hb
def dNeg : Dat → Option Dat
  | .int i => some (.int (-i))
  | _ => none
def eUn (F : Dat → Option Dat) (f : E) : E := fun env δ => (f env δ).bind fun r => (F r.1).map fun z => (z, r.2)
theorem d_neg (ha : DE X a ta f) : DS X (.UnaryOp .USub a pos) (tUn (rU fun i => .int (-i)) ta) (eUn dNeg f) := by
  refine ⟨pe_un un_neg ha.p, fun q σ H env δ z δ' Q k ef kq => ?_⟩
  unfold eUn at ef
  cases e1 : f env δ with
  | none => rw [e1] at ef; cases ef
  | some r1 =>
    obtain ⟨x, δ1⟩ := r1
    rw [e1] at ef
    cases x <;> first | (cases ef; done) | skip
    cases ef
    refine ha.r q σ H env δ _ _ _ k e1 fun v H1 k1 o1 r1 => ?_
    cases r1
    exact ⟨_, rfl, kq _ H1 k1 o1 (.int _)⟩
/-! comparisons -/
mutual
def toPy : Dat → Option PyData
  | .non => some .none
  | .bl b => some (.bool b)
  | .int i => some (.int i)
  | .str x => some (.str x)
  | .tup xs => (toPyA xs).map .tuple
  | .lst xs => (toPyA xs).map .list
  | .ctup _ => none
  | .dice => none
  | .obj _ _ _ => none
  | .dT _ _ => none
  | .ftup xs => (toPyA xs).map .tuple
  | .dK _ _ => none
  | .cst _ => none
def toPyA : List Dat → Option (List PyData)
  | [] => some []
  | x :: xs => (toPy x).bind fun y => (toPyA xs).map fun ys => y :: ys
end
mutual
theorem Rp.dp {d : Option Addr} {N : Addr → Prop} {H : Hp} : ∀ (x : Dat) (v : V) (p : PyData), Rp K mg d N H v x → toPy x = some p → Dp K H v p
  | .non, _, _, h, e => by cases h; simp [toPy] at e; subst e; exact .non
  | .bl b, _, _, h, e => by cases h; simp [toPy] at e; subst e; exact .bl b
  | .int i, _, _, h, e => by cases h; simp [toPy] at e; subst e; exact .int i
  | .str x, _, _, h, e => by cases h; simp [toPy] at e; subst e; exact .str x
  | .tup xs, _, _, h, e => by
    cases h with
    | tup h1 h2 =>
      simp only [toPy] at e
      cases e1 : toPyA xs with
      | none => rw [e1] at e; cases e
      | some ps =>
        rw [e1] at e
        cases e
        exact .tup (.of h1) (RpA.dp xs _ ps h2 e1)
  | .ctup _, _, _, h, e => by cases e
  | .lst xs, _, _, h, e => by
    cases h with
    | lst h1 _ h2 =>
      simp only [toPy] at e
      cases e1 : toPyA xs with
      | none => rw [e1] at e; cases e
      | some ps =>
        rw [e1] at e
        cases e
        exact .lst (.of h1) (RpA.dp xs _ ps h2 e1)
  | .dice, _, _, _, e => by simp [toPy] at e
  | .obj _ _ _, _, _, _, e => by simp [toPy] at e
  | .dT _ _, _, _, _, e => by simp [toPy] at e
  | .dK _ _, _, _, _, e => by simp [toPy] at e
  | .cst _, _, _, _, e => by simp [toPy] at e
  | .ftup xs, _, _, h, e => by
    cases h with
    | ftup h1 ho h2 =>
      simp only [toPy] at e
      cases e1 : toPyA xs with
      | none => rw [e1] at e; cases e
      | some ps =>
        rw [e1] at e
        cases e
        exact .tup (.inl (.inr ⟨_, h1⟩)) (RpA.dp xs _ ps h2 e1)
theorem RpA.dp {d : Option Addr} {N : Addr → Prop} {H : Hp} : ∀ (xs : List Dat) (vs : List V) (ps : List PyData), RpA K mg d N H vs xs → toPyA xs = some ps → DpAll K H vs ps
  | [], _, _, h, e => by cases h; simp [toPyA] at e; subst e; exact .nil
  | x :: xs, _, _, h, e => by
    cases h with
    | cons h1 h2 =>
      simp only [toPyA] at e
      cases e1 : toPy x with
      | none => rw [e1] at e; cases e
      | some p =>
        rw [e1] at e
        cases e2 : toPyA xs with
        | none => rw [e2] at e; cases e
        | some ps =>
          rw [e2] at e
          cases e
          exact .cons (Rp.dp x _ p h1 e1) (RpA.dp xs _ ps h2 e2)
end
theorem RpB.dp {d : Option Addr} {N : Addr → Prop} {H : Hp} {x : Dat} {v : V} {p : PyData} (h : RpB K mg d N H v x) (e : toPy x = some p) : Dp K H v p := by
  cases x with
  | lst xs =>
    obtain ⟨a, vs, rfl, e2, _, r⟩ := h
    simp only [toPy] at e
    cases e1 : toPyA xs with
    | none => rw [e1] at e; cases e
    | some ps =>
      rw [e1] at e
      cases e
      exact .lst (.of e2) (RpA.dp xs _ ps r e1)
  | non => exact Rp.dp _ _ _ h e
  | bl => exact Rp.dp _ _ _ h e
  | int => exact Rp.dp _ _ _ h e
  | str => exact Rp.dp _ _ _ h e
  | tup => exact Rp.dp _ _ _ h e
  | ctup => cases e
  | dice => exact Rp.dp _ _ _ h e
  | obj => cases e
  | dT => cases e
  | dK => cases e
  | cst => cases e
  | ftup => exact Rp.dp _ _ _ h e
/-- equal data, none where the library's rule does not reach -/
def eqD (x y : Dat) : Option Bool := (toPy x).bind fun a => (toPy y).bind fun b => if (SeqAt.shaped a && SeqAt.shaped b) = true then some (PyData.eqv a b) else none
theorem eqD_some {x y : Dat} {k : Bool} (h : eqD x y = some k) : ∃ a b, toPy x = some a ∧ toPy y = some b ∧ SeqAt.shaped a = true ∧ SeqAt.shaped b = true ∧ PyData.eqv a b = k := by
  unfold eqD at h
  cases e1 : toPy x with
  | none => rw [e1] at h; cases h
  | some a =>
    rw [e1] at h
    cases e2 : toPy y with
    | none => rw [e2] at h; cases h
    | some b =>
      rw [e2] at h
      simp only [Option.bind_some] at h
      split at h
      · rename_i hc
        rw [Bool.and_eq_true] at hc
        exact ⟨a, b, rfl, rfl, hc.1, hc.2, Option.some.inj h⟩
      · cases h
def dEq : Dat → Dat → Option Dat := fun x y => (eqD x y).map .bl
def dNe : Dat → Dat → Option Dat := fun x y => (eqD x y).map fun k => .bl (!k)
theorem ref_eq : RefO K mg (rEqD K) dEq := by
  intro d N H v w x y z Q hd hN rv rw' e kq
  unfold dEq at e
  cases e1 : eqD x y with
  | none => rw [e1] at e; cases e
  | some k =>
    rw [e1] at e
    cases e
    obtain ⟨a, b, h1, h2, h3, h4, rfl⟩ := eqD_some e1
    exact ⟨a, b, rv.dp h1, rw'.dp h2, h3, h4, kq _ H same_refl (.bl _)⟩
theorem ref_ne : RefO K mg (rNeD K) dNe := by
  intro d N H v w x y z Q hd hN rv rw' e kq
  unfold dNe at e
  cases e1 : eqD x y with
  | none => rw [e1] at e; cases e
  | some k =>
    rw [e1] at e
    cases e
    obtain ⟨a, b, h1, h2, h3, h4, rfl⟩ := eqD_some e1
    exact ⟨a, b, rv.dp h1, rw'.dp h2, h3, h4, kq _ H same_refl (.bl _)⟩
/-- x in a list, by equality -/
def inD (x : Dat) (ys : List Dat) : Option Bool := (toPy x).bind fun a => (toPyA ys).bind fun bs => if (SeqAt.shaped a && SeqAt.shaped (.list bs)) = true then some (bs.any fun z => PyData.eqv z a) else none
theorem inD_some {x : Dat} {ys : List Dat} {k : Bool} (h : inD x ys = some k) : ∃ a bs, toPy x = some a ∧ toPyA ys = some bs ∧ SeqAt.shaped a = true ∧ SeqAt.shaped (.list bs) = true ∧ (bs.any fun z => PyData.eqv z a) = k := by
  unfold inD at h
  cases e1 : toPy x with
  | none => rw [e1] at h; cases h
  | some a =>
    rw [e1] at h
    cases e2 : toPyA ys with
    | none => rw [e2] at h; cases h
    | some b =>
      rw [e2] at h
      simp only [Option.bind_some] at h
      split at h
      · rename_i hc
        rw [Bool.and_eq_true] at hc
        exact ⟨a, b, rfl, rfl, hc.1, hc.2, Option.some.inj h⟩
      · cases h
def dInL (neg : Bool) : Dat → Dat → Option Dat
  | x, .lst ys => (inD x ys).map fun k => .bl (k != neg)
  | _, _ => none
theorem ref_inL : RefO K mg (rInD K) (dInL false) := by
  intro d N H v w x y z Q hd hN rv rw' e kq
  cases y <;> first | (cases e; done) | skip
  rename_i ys
  have e' : ((inD x ys).map fun k => Dat.bl (k != false)) = some z := e
  cases e1 : inD x ys with
  | none => rw [e1] at e'; cases e'
  | some k =>
    rw [e1] at e'
    cases e'
    obtain ⟨a, bs, h1, h2, h3, h4, rfl⟩ := inD_some e1
    refine ⟨a, bs, rv.dp h1, rw'.dp (by simp [toPy, h2]), h3, h4, kq _ H same_refl ?_⟩
    show Rp K mg d N H _ (.bl ((bs.any fun z => PyData.eqv z a) != false))
    rw [Bool.bne_false]
    exact .bl _
theorem ref_notInL : RefO K mg (rNotInD K) (dInL true) := by
  intro d N H v w x y z Q hd hN rv rw' e kq
  cases y <;> first | (cases e; done) | skip
  rename_i ys
  have e' : ((inD x ys).map fun k => Dat.bl (k != true)) = some z := e
  cases e1 : inD x ys with
  | none => rw [e1] at e'; cases e'
  | some k =>
    rw [e1] at e'
    cases e'
    obtain ⟨a, bs, h1, h2, h3, h4, rfl⟩ := inD_some e1
    refine ⟨a, bs, rv.dp h1, rw'.dp (by simp [toPy, h2]), h3, h4, kq _ H same_refl ?_⟩
    show Rp K mg d N H _ (.bl ((bs.any fun z => PyData.eqv z a) != true))
    rw [Bool.bne_true]
    exact .bl _
/-- flat items -/
def toV : Dat → Option V
  | .non => some .non
  | .bl b => some (.bl b)
  | .int i => some (.int i)
  | .str x => some (.str x)
  | _ => none
def toVs : List Dat → Option (List V)
  | [] => some []
  | x :: xs => (toV x).bind fun v => (toVs xs).map fun vs => v :: vs
theorem Rp.toV {d : Option Addr} {N : Addr → Prop} {H : Hp} {x : Dat} {v u : V} (h : Rp K mg d N H v x) (e : Dl.toV x = some u) : v = u ∧ flatV u = true := by
  cases x <;> first | (cases e; done) | skip
  all_goals (cases h; cases e; exact ⟨rfl, rfl⟩)
theorem RpA.toVs {d : Option Addr} {N : Addr → Prop} {H : Hp} : ∀ {xs : List Dat} {vs us : List V}, RpA K mg d N H vs xs → Dl.toVs xs = some us → vs = us ∧ us.all flatV = true
  | [], _, _, h, e => by cases h; cases e; exact ⟨rfl, rfl⟩
  | x :: xs, _, _, h, e => by
    cases h with
    | cons h1 h2 =>
      unfold Dl.toVs at e
      cases e1 : Dl.toV x with
      | none => rw [e1] at e; cases e
      | some u =>
        rw [e1] at e
        cases e2 : Dl.toVs xs with
        | none => rw [e2] at e; cases e
        | some us =>
          rw [e2] at e
          cases e
          obtain ⟨rfl, f1⟩ := h1.toV e1
          obtain ⟨rfl, f2⟩ := RpA.toVs h2 e2
          exact ⟨rfl, by simp [f1, f2]⟩
def dInT (neg : Bool) : Dat → Dat → Option Dat
  | x, .tup ys => (toV x).bind fun u => (toVs ys).map fun us => .bl (if neg then !inV u us else inV u us)
  | _, _ => none
theorem ref_inT (neg : Bool) : RefO K mg (rIn K neg) (dInT neg) := by
  intro d N H v w x y z Q hd hN rv rw' e kq
  cases y <;> first | (cases e; done) | skip
  rename_i ys
  have e' : ((toV x).bind fun u => (toVs ys).map fun us => Dat.bl (if neg then !inV u us else inV u us)) = some z := e
  cases e1 : toV x with
  | none => rw [e1] at e'; cases e'
  | some u =>
    rw [e1] at e'
    cases e2 : toVs ys with
    | none => rw [e2] at e'; cases e'
    | some us =>
      rw [e2] at e'
      cases e'
      have rx : Rp K mg d N H v x := by
        cases x <;> first | (cases e1; done) | exact rv
      obtain ⟨rfl, f1⟩ := rx.toV e1
      cases rw' with
      | tup h1 h2 =>
        obtain ⟨rfl, f2⟩ := h2.toVs e2
        exact ⟨_, _, rfl, .inr (.of h1), f1, f2, kq _ H same_refl (.bl _)⟩
def dIn : Dat → Dat → Option Dat := fun x y => (dInL false x y).orElse fun _ => dInT false x y
def dNotIn : Dat → Dat → Option Dat := fun x y => (dInL true x y).orElse fun _ => dInT true x y
variable {k : Nat}
theorem d_eq (hr : Room k X.A) (ha : DE X a ta f) (hb : DE X b tb g) : DS X (.Compare a [.Eq] [b] pos) (tOp (rEqD X.K) ta tb) (eOp dEq f g) := d_cmp (op_eqD hr.units) ref_eq ha hb (nomark _)
theorem d_ne (hr : Room k X.A) (ha : DE X a ta f) (hb : DE X b tb g) : DS X (.Compare a [.NotEq] [b] pos) (tOp (rNeD X.K) ta tb) (eOp dNe f g) := d_cmp (op_neD hr.units) ref_ne ha hb (nomark _)
theorem d_teq (hr : Room k X.A) (ha : DE X a ta f) (hb : DE X b tb g) : DT X (.Compare a [.Eq] [b] pos) (tTest (tOp (rEqD X.K) ta tb)) (eTest (eOp dEq f g)) := d_tcmp (op_eqD hr.units) ref_eq ha hb (nomark _)
theorem d_tne (hr : Room k X.A) (ha : DE X a ta f) (hb : DE X b tb g) : DT X (.Compare a [.NotEq] [b] pos) (tTest (tOp (rNeD X.K) ta tb)) (eTest (eOp dNe f g)) := d_tcmp (op_neD hr.units) ref_ne ha hb (nomark _)
theorem room65 {A : Around} (hr : Room k A) : A.units + 65 < cLine := by have := hr.un; omega
abbrev rInU (K : PySem.W.Frag) : R2 := fun x y H Q => rInD K x y H Q ∨ rIn K false x y H Q
abbrev rNotInU (K : PySem.W.Frag) : R2 := fun x y H Q => rNotInD K x y H Q ∨ rIn K true x y H Q
abbrev rIsNV : R2 := fun x y H Q => y = .non ∧ Q (.bl (decide (x = .non))) H
abbrev rNotNV : R2 := fun x y H Q => y = .non ∧ Q (.bl (!decide (x = .non))) H
theorem op_inU (hr : Room k X.A) : OpR X (compareOp .In) (rInU X.K) := (op_inD (room65 hr)).or op_in_seq
theorem op_notInU (hr : Room k X.A) : OpR X (compareOp .NotIn) (rNotInU X.K) := (op_notInD (room65 hr)).or op_notIn_seq
theorem d_in (hr : Room k X.A) (ha : DE X a ta f) (hb : DE X b tb g) (hm : behindInMarks .In b = false := by rfl) : DS X (.Compare a [.In] [b] pos) (tOp (rInU X.K) ta tb) (eOp dIn f g) := d_cmp (op_inU hr) (refO_or ref_inL (ref_inT false)) ha hb hm
theorem d_notIn (hr : Room k X.A) (ha : DE X a ta f) (hb : DE X b tb g) (hm : behindInMarks .NotIn b = false := by rfl) : DS X (.Compare a [.NotIn] [b] pos) (tOp (rNotInU X.K) ta tb) (eOp dNotIn f g) := d_cmp (op_notInU hr) (refO_or ref_notInL (ref_inT true)) ha hb hm
theorem d_tin (hr : Room k X.A) (ha : DE X a ta f) (hb : DE X b tb g) (hm : behindInMarks .In b = false := by rfl) : DT X (.Compare a [.In] [b] pos) (tTest (tOp (rInU X.K) ta tb)) (eTest (eOp dIn f g)) := d_tcmp (op_inU hr) (refO_or ref_inL (ref_inT false)) ha hb hm
theorem d_tnotIn (hr : Room k X.A) (ha : DE X a ta f) (hb : DE X b tb g) (hm : behindInMarks .NotIn b = false := by rfl) : DT X (.Compare a [.NotIn] [b] pos) (tTest (tOp (rNotInU X.K) ta tb)) (eTest (eOp dNotIn f g)) := d_tcmp (op_notInU hr) (refO_or ref_notInL (ref_inT true)) ha hb hm
def dLt := dI fun i j => .bl (decide (i < j))
def dLe := dI fun i j => .bl (decide (i ≤ j))
def dGt := dI fun i j => .bl (decide (j < i))
def dGe := dI fun i j => .bl (decide (j ≤ i))
theorem d_lt (ha : DE X a ta f) (hb : DE X b tb g) : DS X (.Compare a [.Lt] [b] pos) (tOp (rI0 fun i j => .bl (decide (i < j))) ta tb) (eOp dLt f g) := d_cmp op_lt refO_bl0 ha hb (nomark _)
theorem d_le (ha : DE X a ta f) (hb : DE X b tb g) : DS X (.Compare a [.LtE] [b] pos) (tOp (rI0 fun i j => .bl (decide (i ≤ j))) ta tb) (eOp dLe f g) := d_cmp op_le refO_bl0 ha hb (nomark _)
theorem d_gt (ha : DE X a ta f) (hb : DE X b tb g) : DS X (.Compare a [.Gt] [b] pos) (tOp (rI0 fun i j => .bl (decide (j < i))) ta tb) (eOp dGt f g) := d_cmp op_gt refO_bl0 ha hb (nomark _)
theorem d_ge (ha : DE X a ta f) (hb : DE X b tb g) : DS X (.Compare a [.GtE] [b] pos) (tOp (rI0 fun i j => .bl (decide (j ≤ i))) ta tb) (eOp dGe f g) := d_cmp op_ge refO_bl0 ha hb (nomark _)
theorem d_tlt (ha : DE X a ta f) (hb : DE X b tb g) : DT X (.Compare a [.Lt] [b] pos) (tTest (tOp (rI0 fun i j => .bl (decide (i < j))) ta tb)) (eTest (eOp dLt f g)) := d_tcmp op_lt refO_bl0 ha hb (nomark _)
theorem d_tle (ha : DE X a ta f) (hb : DE X b tb g) : DT X (.Compare a [.LtE] [b] pos) (tTest (tOp (rI0 fun i j => .bl (decide (i ≤ j))) ta tb)) (eTest (eOp dLe f g)) := d_tcmp op_le refO_bl0 ha hb (nomark _)
theorem d_tgt (ha : DE X a ta f) (hb : DE X b tb g) : DT X (.Compare a [.Gt] [b] pos) (tTest (tOp (rI0 fun i j => .bl (decide (j < i))) ta tb)) (eTest (eOp dGt f g)) := d_tcmp op_gt refO_bl0 ha hb (nomark _)
theorem d_tge (ha : DE X a ta f) (hb : DE X b tb g) : DT X (.Compare a [.GtE] [b] pos) (tTest (tOp (rI0 fun i j => .bl (decide (j ≤ i))) ta tb)) (eTest (eOp dGe f g)) := d_tcmp op_ge refO_bl0 ha hb (nomark _)
/-- is None -/
def dIsN : Dat → Dat → Option Dat
  | .non, .non => some (.bl true)
  | .dice, .non => none
  | .cst _, .non => none
  | _, .non => some (.bl false)
  | _, _ => none
def dNotN : Dat → Dat → Option Dat
  | .non, .non => some (.bl false)
  | .dice, .non => none
  | .cst _, .non => none
  | _, .non => some (.bl true)
  | _, _ => none
theorem ref_isN : RefO K mg (fun x y H Q => y = .non ∧ Q (.bl (decide (x = .non))) H) dIsN := by
  intro d N H v w x y z Q hd hN rv rw' e kq
  cases y <;> first | (cases x <;> cases e; done) | skip
  cases rw'
  refine ⟨rfl, kq _ H same_refl ?_⟩
  cases x with
  | lst xs => obtain ⟨a, vs, rfl, _⟩ := rv; cases e; exact .bl _
  | dT ks xs => obtain ⟨a, vs, rfl, _⟩ := rv; cases e; exact .bl _
  | obj c ks xs => obtain ⟨a, vs, C, dx, rfl, _⟩ := rv; cases e; exact .bl _
  | dice => cases e
  | cst => cases e
  | _ => cases rv; cases e; exact .bl _
theorem ref_notN : RefO K mg (fun x y H Q => y = .non ∧ Q (.bl (!decide (x = .non))) H) dNotN := by
  intro d N H v w x y z Q hd hN rv rw' e kq
  cases y <;> first | (cases x <;> cases e; done) | skip
  cases rw'
  refine ⟨rfl, kq _ H same_refl ?_⟩
  cases x with
  | lst xs => obtain ⟨a, vs, rfl, _⟩ := rv; cases e; exact .bl _
  | dT ks xs => obtain ⟨a, vs, rfl, _⟩ := rv; cases e; exact .bl _
  | obj c ks xs => obtain ⟨a, vs, C, dx, rfl, _⟩ := rv; cases e; exact .bl _
  | dice => cases e
  | cst => cases e
  | _ => cases rv; cases e; exact .bl _
theorem d_isN (ha : DE X a ta f) (hb : DE X b tb g) : DS X (.Compare a [.Is] [b] pos) (tOp rIsNV ta tb) (eOp dIsN f g) := d_cmp op_isN ref_isN ha hb (nomark _)
theorem d_notN (ha : DE X a ta f) (hb : DE X b tb g) : DS X (.Compare a [.IsNot] [b] pos) (tOp rNotNV ta tb) (eOp dNotN f g) := d_cmp op_notN ref_notN ha hb (nomark _)
theorem d_tisN (ha : DE X a ta f) (hb : DE X b tb g) : DT X (.Compare a [.Is] [b] pos) (tTest (tOp rIsNV ta tb)) (eTest (eOp dIsN f g)) := d_tcmp op_isN ref_isN ha hb (nomark _)
theorem d_tnotN (ha : DE X a ta f) (hb : DE X b tb g) : DT X (.Compare a [.IsNot] [b] pos) (tTest (tOp rNotNV ta tb)) (eTest (eOp dNotN f g)) := d_tcmp op_notN ref_notN ha hb (nomark _)
end
end Dl

namespace Dl
open PySem PySem.Spec L2
open PyProof.Rows (envOfC)
section
variable {X : Cx} {e a b c elt iter tg : Expr} {es ifs : List Expr} {t ta tb te tc : TE} {f g h fe : E} {ft : ET} {fi fr : EA} {gd : GT} {tgd : TG} {tt : TT} {wi : TI} {ts : List Nat} {tr : TA} {pos p2 : Pos} {K : PySem.W.Frag} {mg : Str → Option Value}
/-! a op b op c -/
def eChain (F G : Dat → Dat → Option Dat) (f g h : E) : E := fun env δ => (f env δ).bind fun r => (g env r.2).bind fun u => (F r.1 u.1).bind fun z => match z with
  | .bl true => (h env u.2).bind fun w => (G u.1 w.1).map fun z => (z, w.2)
  | .bl false => some (.bl false, u.2)
  | _ => none
theorem re_chain {r r' : R2} {F G : Dat → Dat → Option Dat} (hr : RefO K mg r F) (hr' : RefO K mg r' G) (ha : RE K mg ta f) (hb : RE K mg tb g) (hc : RE K mg tc h) : RS K mg (tChain r r' ta tb tc) (eChain F G f g h) := by
  intro q σ H env δ z δ' Q k ef kq
  unfold eChain at ef
  cases e1 : f env δ with
  | none => rw [e1] at ef; cases ef
  | some r1 =>
    obtain ⟨x, δ1⟩ := r1
    rw [e1] at ef
    cases e2 : g env δ1 with
    | none => simp [e2] at ef
    | some r2 =>
      obtain ⟨y, δ2⟩ := r2
      simp only [Option.bind_some, e2] at ef
      cases e3 : F x y with
      | none => simp [e3] at ef
      | some z' =>
        simp only [e3, Option.bind_some] at ef
        refine ha q σ H env δ x δ1 _ k e1 fun v H1 k1 o1 r1 => ?_
        refine hb q σ H1 env δ1 y δ2 _ o1 e2 fun w H2 k2 o2 r2 => ?_
        refine hr q.d (NN q σ env) H2 v w x y z' _ o2.dn (fun b => o2.nn) (r1.keep k.dn k2 fun b z => .inl z) r2 e3 fun u H3 s3 r3 => ?_
        cases z' with
        | bl kb =>
          cases r3
          refine ⟨kb, rfl, ?_⟩
          have o3 := o2.grow s3
          cases kb with
          | false =>
            cases ef
            exact kq _ H3 ((k1.trans k2).trans (.of_same s3)) o3 (.bl false)
          | true =>
            have ef : ((h env δ2).bind fun w => (G y w.1).map fun z => (z, w.2)) = some (z, δ') := ef
            cases e4 : h env δ2 with
            | none => rw [e4] at ef; cases ef
            | some r4 =>
              obtain ⟨y4, δ4⟩ := r4
              rw [e4] at ef
              simp only [Option.bind_some] at ef
              cases e5 : G y y4 with
              | none => rw [e5] at ef; cases ef
              | some z5 =>
                rw [e5] at ef
                cases ef
                refine hc q σ H3 env δ2 y4 _ _ o3 e4 fun w4 H4 k4 o4 r4 => ?_
                refine hr' q.d (NN q σ env) H4 w w4 y y4 z Q o4.dn (fun b => o4.nn) ((r2.keep k.dn (.of_same s3) fun b z => .inl z).keep k.dn k4 fun b z => .inl z) r4 e5 fun u5 H5 s5 r5 => ?_
                exact kq u5 H5 ((((k1.trans k2).trans (.of_same s3)).trans k4).trans (.of_same s5)) (o4.grow s5) r5
        | _ => cases ef
theorem d_chain {op op' : CmpOp} {r r' : R2} {F G : Dat → Dat → Option Dat} (ho : OpR X (compareOp op) r) (ho' : OpR X (compareOp op') r') (hr : RefO X.K X.mg r F) (hr' : RefO X.K X.mg r' G) (ha : DE X a ta f) (hb : DE X b tb g) (hc : DE X c tc h)
    (hm : lastMarks [op, op'] [b, c] = false := by with_unfolding_all rfl) : DS X (.Compare a [op, op'] [b, c] pos) (tChain r r' ta tb tc) (eChain F G f g h) := ⟨pe_chain ho ho' ha.p hb.p hc.p hm, re_chain hr hr' ha.r hb.r hc.r⟩
theorem d_tchain {op op' : CmpOp} {r r' : R2} {F G : Dat → Dat → Option Dat} (ho : OpR X (compareOp op) r) (ho' : OpR X (compareOp op') r') (hr : RefO X.K X.mg r F) (hr' : RefO X.K X.mg r' G) (ha : DE X a ta f) (hb : DE X b tb g) (hc : DE X c tc h)
    (hm : lastMarks [op, op'] [b, c] = false := by with_unfolding_all rfl) : DT X (.Compare a [op, op'] [b, c] pos) (tTest (tChain r r' ta tb tc)) (eTest (eChain F G f g h)) :=
  ⟨pt_chain ho ho' ha.p hb.p hc.p hm, rt_test fun q σ H env δ x δ' Q k ef kq => (re_chain hr hr' ha.r hb.r hc.r) q σ H env δ x δ' Q k ef fun v H' k1 k2 r => kq v H' k1 k2 (r.weak k.dn)⟩
/-! subscripts -/
def dIx : Dat → Dat → Option Dat
  | .lst xs, .int i => atI xs i
  | .tup xs, .int i => atI xs i
  | .ftup xs, .int i => atI xs i
  | .str z, .int i => if z.length < 1000000 then (atI z.cps.toList i).map fun c => .str ⟨#[c]⟩ else none
  | _, _ => none
theorem RpA.atI {d : Option Addr} {N : Addr → Prop} {H : Hp} {vs : List V} {xs : List Dat} {i : Int} {x : Dat} (h : RpA K mg d N H vs xs) (e : L2.atI xs i = some x) : ∃ v, L2.atI vs i = some v ∧ Rp K mg d N H v x := by
  unfold L2.atI at e ⊢
  rw [h.length]
  cases q : ixN xs.length i with
  | none => rw [q] at e; cases e
  | some j =>
    rw [q] at e
    exact h.get e
theorem ref_ix : RefO K mg (rIx K) dIx := by
  intro d N H v w x y z Q hd hN rv rw' e kq
  cases x <;> cases y <;> first | (cases e; done) | skip
  · rename_i s i
    cases rv; cases rw'
    have e' : (if s.length < 1000000 then (L2.atI s.cps.toList i).map fun c => Dat.str ⟨#[c]⟩ else none) = some z := e
    split at e'
    · rename_i hl
      cases q : L2.atI s.cps.toList i with
      | none => rw [q] at e'; cases e'
      | some c =>
        rw [q] at e'
        cases e'
        exact .inr (.inr ⟨s, i, c, rfl, rfl, le_line hl, q, kq _ H same_refl (.str _)⟩)
    · cases e'
  · rename_i xs i
    cases rw'
    cases rv with
    | tup h1 h2 =>
      obtain ⟨u, e1, r1⟩ := h2.atI e
      exact .inr (.inl ⟨_, _, i, u, rfl, rfl, .of h1, e1, kq u H same_refl r1⟩)
  · rename_i xs i
    cases rw'
    obtain ⟨a, vs, rfl, e2, _, r⟩ := rv
    obtain ⟨u, e1, r1⟩ := r.atI e
    exact .inl ⟨a, vs, i, u, rfl, rfl, .of e2, e1, kq u H same_refl r1⟩
  · rename_i xs i
    cases rw'
    cases rv with
    | ftup h1 ho h2 =>
      obtain ⟨u, e1, r1⟩ := h2.atI e
      exact .inr (.inl ⟨_, _, i, u, rfl, rfl, .inl (.inr ⟨_, h1⟩), e1, kq u H same_refl r1⟩)
theorem d_ix (ha : DE X a ta f) (hb : DE X b tb g) (hs : PlainIx b := by exact fun _ _ => rfl) : DS X (.Subscript a b pos) (tOp (rIx X.K) ta tb) (eOp dIx f g) := ⟨pe_ix ix_seq ha.p hb.p hs, re_op ref_ix ha.r hb.r⟩
/-- a written dict with text keys -/
def eKd (tbl : Str → Option Dat) (f : E) : E := fun env δ => (f env δ).bind fun r => match r.1 with
  | .str z => (tbl z).map fun y => (y, r.2)
  | _ => none
theorem d_kd {tbl : Str → Option Dat} {nm : Str} {p : Pos} {ad : Addr} (hg : Gl X nm) (hm : X.mg nm = some (.ref ad)) (ht : ∀ z y, tbl z = some y → ∃ v, KDct X.K X.w ad z v ∧ ∀ d N H, Rp X.K X.mg d N H v y) (hb : DE X b tb g)
    (hd : (nm == ("__debug__" : Str)) = false := by decide) (hs : PlainIx b := by exact fun _ _ => rfl) : DS X (.Subscript (.Name nm p) b pos) (tOp (rIxD X.K X.w) (tC (.ref ad)) tb) (eKd tbl g) := by
  refine ⟨pe_ix ix_kdict (pe_glob hg hm rfl hd) hb.p hs, fun q σ H env δ x δ' Q k ef kq => ?_⟩
  unfold eKd at ef
  cases e1 : g env δ with
  | none => rw [e1] at ef; cases ef
  | some r1 =>
    obtain ⟨y, δ1⟩ := r1
    rw [e1] at ef
    cases y <;> first | (cases ef; done) | skip
    rename_i z
    have ef : ((tbl z).map fun y => (y, δ1)) = some (x, δ') := ef
    cases e2 : tbl z with
    | none => rw [e2] at ef; cases ef
    | some w =>
      rw [e2] at ef
      cases ef
      obtain ⟨v, kd, r⟩ := ht z _ e2
      refine hb.r q σ H env δ _ _ _ k e1 fun u H1 k1 o1 r1 => ?_
      cases r1
      exact ⟨ad, z, v, rfl, rfl, kd, kq v H1 k1 o1 (r _ _ _)⟩
/-! slices -/
abbrev EO := Ev → List Int → Option (Option Int × List Int)
structure DO (X : Cx) (e : Option Expr) (t : TO) (f : EO) : Prop where
  p : PO X e t
  r : ∀ (q : Fm) (σ : St) (H : Hp) (env : Ev) (δ : List Int) (x : Option Int) (δ' : List Int) (Q : Option Int → Hp → Prop), Ok X.K X.mg q σ H env δ → f env δ = some (x, δ') → (∀ H', Keep (isD q.d) H H' → Ok X.K X.mg q σ H' env δ' → Q x H') → t σ H Q
def oNone : EO := fun _ δ => some (none, δ)
def oSome (f : E) : EO := fun env δ => (f env δ).bind fun r => match r.1 with
  | .int i => some (some i, r.2)
  | _ => none
theorem d_onone : DO X none tNoPart oNone := ⟨po_none, fun q σ H env δ x δ' Q k ef kq => by cases ef; exact kq H .refl k⟩
theorem d_osome (ha : DE X a ta f) : DO X (some a) (tPart ta) (oSome f) := by
  refine ⟨po_some ha.p, fun q σ H env δ x δ' Q k ef kq => ?_⟩
  unfold oSome at ef
  cases e1 : f env δ with
  | none => rw [e1] at ef; cases ef
  | some r1 =>
    obtain ⟨y, δ1⟩ := r1
    rw [e1] at ef
    cases y <;> first | (cases ef; done) | skip
    cases ef
    refine ha.r q σ H env δ _ _ _ k e1 fun u H1 k1 o1 r1 => ?_
    cases r1
    exact ⟨_, rfl, kq H1 k1 o1⟩
def cutD (xs : List Dat) (lo hi : Option Int) : List Dat := (xs.drop (HT.sIx xs.length 0 lo)).take (HT.sIx xs.length xs.length hi - HT.sIx xs.length 0 lo)
def dSl : Dat → Option Int → Option Int → Option Dat
  | .str z, lo, hi => if z.length < 1000000 then some (.str (cutS z lo hi)) else none
  | .lst xs, lo, hi => some (.lst (cutD xs lo hi))
  | _, _, _ => none
def eSl (f : E) (fl fh : EO) : E := fun env δ => (f env δ).bind fun r => (fl env r.2).bind fun u => (fh env u.2).bind fun w => (dSl r.1 u.1 w.1).map fun z => (z, w.2)
variable {lo hi : Option Expr} {tl th : TO} {fl fh : EO}
theorem d_sl (ha : DE X a ta f) (hl : DO X lo tl fl) (hh : DO X hi th fh) : DS X (.Subscript a (.Slice lo hi none p2) pos) (tSl (fun x l u H Q => rSlS x l u H Q ∨ rSlL X.K x l u H Q) ta tl th) (eSl f fl fh) := by
  refine ⟨pe_slice (sl_str.or sl_list) ha.p hl.p hh.p, fun q σ H env δ z δ' Q k ef kq => ?_⟩
  unfold eSl at ef
  cases e1 : f env δ with
  | none => rw [e1] at ef; cases ef
  | some r1 =>
    obtain ⟨x, δ1⟩ := r1
    rw [e1] at ef
    simp only [Option.bind_some] at ef
    cases e2 : fl env δ1 with
    | none => rw [e2] at ef; cases ef
    | some r2 =>
      obtain ⟨l, δ2⟩ := r2
      rw [e2] at ef
      simp only [Option.bind_some] at ef
      cases e3 : fh env δ2 with
      | none => rw [e3] at ef; cases ef
      | some r3 =>
        obtain ⟨u, δ3⟩ := r3
        rw [e3] at ef
        simp only [Option.bind_some] at ef
        refine ha.r q σ H env δ x δ1 _ k e1 fun v H1 k1 o1 r1 => ?_
        refine hl.r q σ H1 env δ1 l δ2 _ o1 e2 fun H2 k2 o2 => ?_
        refine hh.r q σ H2 env δ2 u δ3 _ o2 e3 fun H3 k3 o3 => ?_
        have rx := (r1.keep k.dn k2 (fun b z => .inl z)).keep k.dn k3 fun b z => .inl z
        cases x <;> first | (cases ef; done) | skip
        · rename_i s
          have ef : ((if s.length < 1000000 then some (Dat.str (cutS s l u)) else none).map fun z => (z, δ3)) = some (z, δ') := ef
          cases rx
          split at ef
          · rename_i hz
            cases ef
            exact .inl ⟨s, rfl, le_line hz, kq _ H3 ((k1.trans k2).trans k3) o3 (.str _)⟩
          · cases ef
        · rename_i xs
          cases ef
          obtain ⟨aa, vs, rfl, g2, _, r⟩ := rx
          refine .inr ⟨aa, vs, rfl, .of g2, fun p hp => ?_⟩
          have s := same_fresh (o := .lst (cutV vs l u)) hp
          refine kq _ _ (((k1.trans k2).trans k3).trans (.of_same s)) (o3.grow s) (.lst upd_same (o3.free hp) (RpA.keep (.of_same s) (fun b z => .inl z) _ _ ?_))
          unfold cutV cutD
          rw [r.length]
          exact (r.drop _).take _
/-! a text turned round -/
def dRev : Dat → Option Dat
  | .str z => if z.length < 1000000 then some (.str ⟨z.cps.toList.reverse.toArray⟩) else none
  | _ => none
/-! calls of built-ins by data -/
def dLen : List Dat → Option Dat
  | [.lst xs] => some (.int xs.length)
  | [.tup xs] => some (.int xs.length)
  | [.ftup xs] => some (.int xs.length)
  | [.str z] => if z.length < 1000000 then some (.int z.length) else none
  | _ => none
abbrev rLenU (K : PySem.W.Frag) : List V → Hp → VK → Prop := fun xs H Q => (∃ p ys, xs = [V.ref p] ∧ (SqL K H p ys ∨ SqT K H p ys) ∧ Q (.int ys.length) H) ∨ (∃ z : Str, xs = [V.str z] ∧ z.length ≤ sizeLine ∧ Q (.int z.length) H)
theorem call_lenU : CallR X (.builtin "len") (rLenU X.K) := CallR.or call_len_seq call_len_str
theorem bs1 {d : Option Addr} {N : Addr → Prop} {H : Hp} {x : Dat} : ∀ {vs : List V}, RpBs K mg d N H vs [x] → ∃ v, vs = [v] ∧ RpB K mg d N H v x
  | [v], ⟨r, _⟩ => ⟨v, rfl, r⟩
  | [], r => r.elim
  | _ :: _ :: _, ⟨_, r⟩ => r.elim
theorem ref_len : RefC K mg (rLenU K) dLen := by
  intro d N H vs xs z Q hd hN rv e kq
  rcases xs with _ | ⟨x, _ | ⟨y, ys⟩⟩
  · cases e
  · obtain ⟨v, rfl, r⟩ := bs1 rv
    cases x <;> first | (cases e; done) | skip
    · rename_i s
      have e' : (if s.length < 1000000 then some (Dat.int s.length) else none) = some z := e
      cases r
      split at e'
      · rename_i hz
        cases e'
        exact .inr ⟨s, rfl, le_line hz, kq _ H same_refl (.int _)⟩
      · cases e'
    · cases e
      cases r with
      | tup h1 h2 =>
        refine .inl ⟨_, _, rfl, .inr (.of h1), ?_⟩
        rw [h2.length]
        exact kq _ H same_refl (.int _)
    · cases e
      obtain ⟨a, ws, rfl, e2, _, r⟩ := r
      refine .inl ⟨a, ws, rfl, .inl (.of e2), ?_⟩
      rw [r.length]
      exact kq _ H same_refl (.int _)
    · cases e
      cases r with
      | ftup h1 ho h2 =>
        refine .inl ⟨_, _, rfl, .inr (.inl (.inr ⟨_, h1⟩)), ?_⟩
        rw [h2.length]
        exact kq _ H same_refl (.int _)
  · cases x <;> cases e
def dAbs : List Dat → Option Dat
  | [.int i] => some (.int (if i < 0 then -i else i))
  | _ => none
theorem ref_abs : RefC K mg (fun xs H Q => ∃ i, xs = [V.int i] ∧ Q (.int (if i < 0 then -i else i)) H) dAbs := by
  intro d N H vs xs z Q hd hN rv e kq
  rcases xs with _ | ⟨x, _ | ⟨y, ys⟩⟩
  · cases e
  · obtain ⟨v, rfl, r⟩ := bs1 rv
    cases x <;> first | (cases e; done) | skip
    cases e
    cases r
    exact ⟨_, rfl, kq _ H same_refl (.int _)⟩
  · cases x <;> cases e
/-- all(..), any(..) of a list of truths -/
def toB : List Dat → Option (List Bool)
  | [] => some []
  | .bl k :: xs => (toB xs).map fun ks => k :: ks
  | _ => none
theorem RpA.toB {d : Option Addr} {N : Addr → Prop} {H : Hp} : ∀ {xs : List Dat} {vs : List V} {ks : List Bool}, RpA K mg d N H vs xs → Dl.toB xs = some ks → vs = ks.map V.bl
  | [], _, _, h, e => by cases h; cases e; rfl
  | x :: xs, _, ks, h, e => by
    cases h with
    | cons h1 h2 =>
      cases x <;> first | (cases e; done) | skip
      rename_i kb
      have e : ((Dl.toB xs).map fun ks => kb :: ks) = some ks := e
      cases e1 : Dl.toB xs with
      | none => rw [e1] at e; cases e
      | some us =>
        rw [e1] at e
        cases e
        cases h1
        rw [RpA.toB h2 e1]
        rfl
def dAll : List Dat → Option Dat
  | [.lst xs] => (toB xs).map fun ks => .bl (ks.all id)
  | _ => none
def dAny : List Dat → Option Dat
  | [.lst xs] => (toB xs).map fun ks => .bl (ks.any id)
  | _ => none
theorem ref_all : RefC K mg (rAll K) dAll := by
  intro d N H vs xs z Q hd hN rv e kq
  rcases xs with _ | ⟨x, _ | ⟨y, ys⟩⟩
  · cases e
  · obtain ⟨v, rfl, r⟩ := bs1 rv
    cases x <;> first | (cases e; done) | skip
    rename_i ys
    have e : ((toB ys).map fun ks => Dat.bl (ks.all id)) = some z := e
    obtain ⟨a, ws, rfl, e2, _, r⟩ := r
    cases e1 : toB ys with
    | none => rw [e1] at e; cases e
    | some ks =>
      rw [e1] at e
      cases e
      rw [r.toB e1] at e2
      exact ⟨a, ks, rfl, .of e2, kq _ H same_refl (.bl _)⟩
  · cases x <;> cases e
theorem ref_any : RefC K mg (rAny K) dAny := by
  intro d N H vs xs z Q hd hN rv e kq
  rcases xs with _ | ⟨x, _ | ⟨y, ys⟩⟩
  · cases e
  · obtain ⟨v, rfl, r⟩ := bs1 rv
    cases x <;> first | (cases e; done) | skip
    rename_i ys
    have e : ((toB ys).map fun ks => Dat.bl (ks.any id)) = some z := e
    obtain ⟨a, ws, rfl, e2, _, r⟩ := r
    cases e1 : toB ys with
    | none => rw [e1] at e; cases e
    | some ks =>
      rw [e1] at e
      cases e
      rw [r.toB e1] at e2
      exact ⟨a, ks, rfl, .of e2, kq _ H same_refl (.bl _)⟩
  · cases x <;> cases e
/-- isinstance(e, T), T a built-in type -/
def tyN : Dat → Option String
  | .non => some "NoneType"
  | .bl _ => some "bool"
  | .int _ => some "int"
  | .str _ => some "str"
  | .tup _ => some "tuple"
  | .lst _ => some "list"
  | _ => none
theorem RpB.ty {d : Option Addr} {N : Addr → Prop} {H : Hp} {x : Dat} {v : V} {n : String} (h : RpB K mg d N H v x) (e : tyN x = some n) : TyX K H v (.type n) := by
  cases x <;> first | (cases e; done) | skip
  · cases h; cases e; exact .base .non
  · cases h; cases e; exact .base (.bl _)
  · cases h; cases e; exact .base (.int _)
  · cases h; cases e; exact .base (.str _)
  · cases e
    cases h with
    | tup h1 h2 =>
      exact .base (.tup h1)
  · cases e
    obtain ⟨a, vs, rfl, e2, _⟩ := h
    exact .base (.lst e2)
def eIsi (T : String) (f : E) : E := fun env δ => (f env δ).bind fun r => (tyN r.1).bind fun n => (kitB n T).map fun k => (.bl k, r.2)
theorem d_isi {T : String} {Tn : Str} {p p3 : Pos} (ha : DE X a ta f) (hg : Gl X "isinstance") (hm : X.mg "isinstance" = none) (hgT : Gl X Tn) (hmT : X.mg Tn = none) (hvT : bootBuiltins Tn = some (.type T)) (hnT : Tn ≠ "__name__" := by decide) (hdT : (Tn == ("__debug__" : Str)) = false := by decide)
    (hs1 : starEach [a, .Name Tn p3] X.env = (false, eval a X.env) :: starEach [.Name Tn p3] X.env := by rfl) (hs2 : starEach [.Name Tn p3] X.env = (false, eval (.Name Tn p3) X.env) :: starEach [] X.env := by rfl) (hpl : (backTo pos (starEach [.Name Tn p3] X.env)).any (·.1) = false := by rfl) :
    DS X (.Call (.Name "isinstance" p) [a, .Name Tn p3] [] pos) (tCB (rIsi X.K) (tCons ta (tCons (tC (.ty T)) tNil))) (eIsi T f) := by
  refine ⟨pe_callB call_isi hg hm PyProof.Rows.boot_isinstance (pa_cons ha.p (pa_cons (pe_bltn (v := .ty T) hgT hmT hvT rfl hnT hdT) pa_nil hs2) hs1) (by decide) (by decide) hs1 hpl, fun q σ H env δ z δ' Q k ef kq => ?_⟩
  unfold eIsi at ef
  cases e1 : f env δ with
  | none => rw [e1] at ef; cases ef
  | some r1 =>
    obtain ⟨x, δ1⟩ := r1
    rw [e1] at ef
    simp only [Option.bind_some] at ef
    cases e2 : tyN x with
    | none => rw [e2] at ef; cases ef
    | some n =>
      rw [e2] at ef
      simp only [Option.bind_some] at ef
      cases e3 : kitB n T with
      | none => rw [e3] at ef; cases ef
      | some kb =>
        rw [e3] at ef
        cases ef
        refine ha.r q σ H env δ x _ _ k e1 fun v H1 k1 o1 r1 => ?_
        exact ⟨v, .ty T, _, _, kb, rfl, .ty T, r1.ty e2, kit_ty e3, kq _ H1 k1 o1 (.bl kb)⟩
/-! methods of texts -/
def toS : List Dat → Option (List Str)
  | [] => some []
  | .str z :: xs => (toS xs).map fun zs => z :: zs
  | _ => none
theorem RpA.toS {d : Option Addr} {N : Addr → Prop} {H : Hp} : ∀ {xs : List Dat} {vs : List V} {ks : List Str}, RpA K mg d N H vs xs → Dl.toS xs = some ks → vs = ks.map V.str
  | [], _, _, h, e => by cases h; cases e; rfl
  | x :: xs, _, ks, h, e => by
    cases h with
    | cons h1 h2 =>
      cases x <;> first | (cases e; done) | skip
      rename_i kb
      have e : ((Dl.toS xs).map fun ks => kb :: ks) = some ks := e
      cases e1 : Dl.toS xs with
      | none => rw [e1] at e; cases e
      | some us =>
        rw [e1] at e
        cases e
        cases h1
        rw [RpA.toS h2 e1]
        rfl
def dJoin : Dat → Dat → Option Dat
  | .str a, .lst xs => (toS xs).bind fun zs => if (zs.map (·.length)).sum + zs.length * a.length < 1000000 then some (.str (Txt.join a zs)) else none
  | _, _ => none
abbrev rJoinV (K : PySem.W.Frag) : V → List V → Hp → VK → Prop := fun x xs H Q => ∃ a p, ∃ ys : List Str, x = .str a ∧ xs = [V.ref p] ∧ (SqL K H p (ys.map V.str) ∨ SqT K H p (ys.map V.str)) ∧
    (ys.map (·.length)).sum + ys.length * a.length ≤ 16777216 ∧ Q (.str (Txt.join a ys)) H
theorem d_join {apos : Pos} (ha : DE X a ta f) (hb : DE X b tb g) (hs : starEach [b] X.env = [(false, eval b X.env)] := by rfl) (hbase : attributeBase a "join" X.env (eval a X.env) = eval a X.env := by rfl) (hline : (apos.endLine == pos.line) = true := by rfl) :
    DS X (.Call (.Attribute a "join" apos) [b] [] pos) (tM1 (rJoinV X.K) ta tb) (eOp dJoin f g) := by
  refine ⟨pe_join ha.p hb.p hs hbase hline, fun q σ H env δ z δ' Q k ef kq => ?_⟩
  unfold eOp at ef
  cases e1 : f env δ with
  | none => rw [e1] at ef; cases ef
  | some r1 =>
    obtain ⟨x, δ1⟩ := r1
    rw [e1] at ef
    cases e2 : g env δ1 with
    | none => simp [e2] at ef
    | some r2 =>
      obtain ⟨y, δ2⟩ := r2
      simp only [Option.bind_some, e2] at ef
      cases x <;> cases y <;> first | (cases ef; done) | skip
      rename_i s xs
      have ef : (((toS xs).bind fun zs => if (zs.map (·.length)).sum + zs.length * s.length < 1000000 then some (Dat.str (Txt.join s zs)) else none).map fun z => (z, δ2)) = some (z, δ') := ef
      cases e3 : toS xs with
      | none => rw [e3] at ef; cases ef
      | some zs =>
        rw [e3] at ef
        simp only [Option.bind_some] at ef
        split at ef
        · rename_i hz
          cases ef
          refine ha.r q σ H env δ _ δ1 _ k e1 fun v H1 k1 o1 r1 => ?_
          cases r1
          refine ⟨⟨s, rfl⟩, hb.r q σ H1 env δ1 _ _ _ o1 e2 fun w H2 k2 o2 r2 => ?_⟩
          obtain ⟨aa, vs, rfl, g2, _, r⟩ := r2
          rw [r.toS e3] at g2
          exact ⟨s, aa, zs, rfl, rfl, .inl (.of g2), by omega, kq _ H2 (k1.trans k2) o2 (.str _)⟩
        · cases ef
/-- 'text'.index(e): found -/
def dIndex : Dat → Dat → Option Dat
  | .str a, .str b => (Txt.index0 a b).map fun k => .int (k : Nat)
  | _, _ => none
theorem d_index {apos : Pos} (hcalm : X.calm = true) (ha : DE X a ta f) (hb : DE X b tb g) (hbase : attributeBase a "index" X.env (eval a X.env) = eval a X.env := by rfl)
    (hfew : ((backTo pos (starEach [b] X.env)).all (fun x => !x.1) && (backToKw pos (keywordEach [] X.env)).all (fun x => x.1.isSome)
      && decide (([b] : List Expr).length + ([] : List Keyword).length + (if ([] : List Keyword).isEmpty then 0 else 1) < 30)) = true := by rfl)
    (hline : (apos.endLine == pos.line) = true := by rfl) (hs : starEach [b] X.env = (false, eval b X.env) :: starEach [] X.env := by rfl) (hplain : (backTo pos (starEach [] X.env)).any (·.1) = false := by rfl) :
    DS X (.Call (.Attribute a "index" apos) [b] [] pos) (tBMS X.K "str" (rIndexX fun _ _ _ _ => False) ta (tCons tb tNil)) (eOp dIndex f g) := by
  refine ⟨pe_bmS PySem.F.plainAttrs_str PySem.F.slot_str_index PySem.F.type_str_index (mt_indexX hcalm takes0) ha.p (pa_cons hb.p pa_nil hs) hbase hfew hline hs hplain, fun q σ H env δ z δ' Q k ef kq => ?_⟩
  unfold eOp at ef
  cases e1 : f env δ with
  | none => rw [e1] at ef; cases ef
  | some r1 =>
    obtain ⟨x, δ1⟩ := r1
    rw [e1] at ef
    cases e2 : g env δ1 with
    | none => simp [e2] at ef
    | some r2 =>
      obtain ⟨y, δ2⟩ := r2
      simp only [Option.bind_some, e2] at ef
      cases x <;> cases y <;> first | (cases ef; done) | skip
      rename_i s u
      have ef : (((Txt.index0 s u).map fun k => Dat.int (k : Nat)).map fun z => (z, δ2)) = some (z, δ') := ef
      cases e3 : Txt.index0 s u with
      | none => rw [e3] at ef; cases ef
      | some kk =>
        rw [e3] at ef
        cases ef
        refine ha.r q σ H env δ _ δ1 _ k e1 fun v H1 k1 o1 r1 => ?_
        cases r1
        refine ⟨rfl, hb.r q σ H1 env δ1 _ _ _ o1 e2 fun w H2 k2 o2 r2 => ?_⟩
        cases r2
        refine ⟨s, u, rfl, rfl, fun k' hk => ?_, fun hk => ?_⟩
        · rw [e3] at hk
          cases hk
          exact kq _ H2 (k1.trans k2) o2 (.int _)
        · rw [e3] at hk
          cases hk
end
/-! ### 8. A def -/
def startE (N : List Str) (xs : List Dat) : Ev := xs.map Slot.val ++ List.replicate (N.length - xs.length) .un
def runG (N : List Str) (g : Sg) : GF := fun xs δ => match g (startE N xs) δ with
  | some (.rt x δ') => some (x, δ')
  | some (.nx _ δ') => some (.non, δ')
  | _ => none
theorem startE_own {N : List Str} {xs : List Dat} {i : Nat} {l : Lc} : (startE N xs)[i]? ≠ some (.own l) := by
  intro h
  have := List.mem_of_getElem? h
  unfold startE at this
  rcases List.mem_append.mp this with m | m
  · obtain ⟨x, _, e⟩ := List.mem_map.mp m
    cases e
  · have := List.eq_of_mem_replicate m
    cases this
theorem fn_g {P : Program} {w : World} {K : PySem.W.Frag} {mg : Str → Option Value} {base : Heap} {x qual : Str} {st : Stmt} {f : Addr} {fd : FuncData} {N ps : List Str} {k : Nat} {g : Sg} (F : Fun K x qual st f fd) (S : FnScope N ps (defScope st))
    (hb : ∀ (cdv : Value) (A : Around) (outer : List Env) (s : Shared) (H : Hp) (E : XK), Room k (A.deeper (envOfC qual (defScope st) s.heap.objs.size f cdv)) →
      ∃ t, DSs (cxOf CX0 P w K mg base N qual (defScope st) f cdv A outer s H E).nox (defBody st) t g) : FnG P w K mg base (k + 1) f fd ps (runG N g) := by
  refine F.ok S (fun vs H Q E h => ?_) (fun cdv A outer s H vs Q E hr h => ?_)
  · obtain ⟨d, M, xs, δ, y, δ', hl, _, _, _, r, _⟩ := h
    rw [r.length, hl]
  · obtain ⟨d, M, xs, δ, y, δ', hl, hd, hM, hdc, r, hG, hQ⟩ := h
    obtain ⟨t, T⟩ := hb cdv A outer s H E hr
    refine ⟨t, T.p, ?_⟩
    have hpl : ps.length ≤ N.length := by have := congrArg List.length S.pre; rw [List.length_take] at this; omega
    have nn : ∀ b, NN ⟨d, M, H, [], [], [], fun _ => True⟩ (L2.start N vs) (startE N xs) b → M b := fun b z => by
      rcases z with z | ⟨l, z⟩ | ⟨i, l, z, _⟩
      · exact z
      · cases z
      · exact absurd z startE_own
    have hN : ∀ b, NN ⟨d, M, H, [], [], [], fun _ => True⟩ (L2.start N vs) (startE N xs) b → M b ∨ H b = none := fun b z => .inl (nn b z)
    have k0 : Ok K mg ⟨d, M, H, [], [], [], fun _ => True⟩ (L2.start N vs) H (startE N xs) δ := by
      refine ⟨.refl, hdc, hd, hM, ?_, fun _ _ _ _ _ => trivial, fun i x e => ?_, fun i l e => absurd e startE_own, fun i j l l' a e => absurd e startE_own, .nil, fun a l e => ?_⟩
      · unfold L2.start startE
        simp [r.length]
      · unfold startE at e
        by_cases hi : i < xs.length
        · rw [List.getElem?_append_left (by simpa using hi), List.getElem?_map] at e
          cases q : xs[i]? with
          | none => rw [q] at e; cases e
          | some x' =>
            rw [q] at e
            cases e
            obtain ⟨v, e1, r1⟩ := r.get q
            refine ⟨v, ?_, Rp.keep .refl hN _ _ r1⟩
            unfold L2.start
            rw [List.getElem?_append_left (by rw [List.length_map, r.length]; exact hi), List.getElem?_map, e1]
            rfl
        · rw [List.getElem?_append_right (by simpa using hi)] at e
          have := List.eq_of_mem_replicate (List.mem_of_getElem? e)
          cases this
      · cases e
    unfold runG at hG
    cases e1 : g (startE N xs) δ with
    | none => rw [e1] at hG; cases hG
    | some o =>
      rw [e1] at hG
      refine T.r ⟨d, M, H, [], [], [], fun _ => True⟩ (L2.start N vs) H (startE N xs) δ o _ k0 e1 ?_
      cases o with
      | rt x δ1 =>
        cases hG
        exact fun v H' k1 d1 r1 => hQ v H' k1 d1 r1
      | nx env1 δ1 =>
        cases hG
        exact fun σ' H' k1 => hQ _ H' k1.kp k1.dc .non
      | bk _ _ => cases hG
      | ct _ _ => cases hG
end Dl

namespace Dl
open PySem PySem.Spec L2
open PyProof.Rows (envOfC)
section
variable {X : Cx} {e a b c s1 : Expr} {es : List Expr} {t ta tb te : TE} {f g : E} {pos p2 : Pos} {K : PySem.W.Frag} {mg : Str → Option Value}
/-! ### 9. A text turned round -/
theorem sliceRange_rev (n : Nat) : sliceRange ((n : Int) - 1) (-1) (-1) = (List.range n).reverse := by
  unfold sliceRange
  have h1 : ¬ ((-1 : Int) > 0) := by decide
  have hr : (List.range n).map (fun k => n - 1 - k) = (List.range n).reverse := by
    apply List.ext_getElem
    · simp
    · intro i h1 h2
      rw [List.getElem_map, List.getElem_reverse]
      simp
  rw [← hr]
  by_cases h : (n : Int) - 1 > -1
  · have e : ((n : Int) - 1 - -1 - -1 - 1) / (- -1) = (n : Int) := by
      rw [show (- -1 : Int) = 1 by decide, Int.ediv_one]
      omega
    simp only [h1, if_false, h, if_true, e, Int.toNat_natCast]
    apply List.map_congr_left
    intro k hk
    have := List.mem_range.mp hk
    omega
  · have e : n = 0 := by omega
    subst e
    simp
theorem pick_all {α : Type} (xs : Array α) : (List.range xs.size).filterMap (xs[·]?) = xs.toList := by
  have : (List.range xs.size).filterMap (xs[·]?) = (List.range xs.toList.length).filterMap (xs.toList[·]?) := by simp
  rw [this]
  generalize xs.toList = l
  induction l with
  | nil => rfl
  | cons x l ih =>
    rw [List.length_cons, List.range_succ_eq_map, List.filterMap_cons]
    simp only [List.getElem?_cons_zero, List.filterMap_map]
    exact congrArg _ ih
def revS (z : Str) : Str := ⟨z.cps.toList.reverse.toArray⟩
theorem picked_rev (z : Str) : ((Builtin.Str.strSliceIndices none none (-1) z.length).filterMap (z.cps[·]?)).toArray = z.cps.toList.reverse.toArray := by
  have e : Builtin.Str.strSliceIndices none none (-1) z.length = (List.range z.cps.size).reverse := sliceRange_rev z.length
  rw [e, List.filterMap_reverse, pick_all]
theorem pe_strRev (he : PE X a ta) (h1 : PE X s1 (tC (.int (-1)))) : PE X (.Subscript a (.Slice none none (some s1) p2) pos) (fun σ H Q => ta σ H fun x H1 => ∃ z, x = .str z ∧ z.length ≤ sizeLine ∧ Q (.str (revS z)) H1) := by
  refine ⟨fun pins s σ H Q I h => ?_⟩
  refine PyProof.Rows.Subscript_ (thn (he.run pins s σ H _ I h) fun v s1' ⟨x, H1, I1, r1, z, ez, hz, q1⟩ => ?_)
  subst ez
  obtain ⟨t, rfl⟩ := r1
  refine wpAny_Slice ?_
  rw [evalPart_none]
  refine wpAny_pure (wpAny_pure ?_)
  rw [evalPart_some]
  refine thn (h1.run pins s1' σ H1 (fun v H' => v = .int (-1) ∧ H1 = H') I1 ⟨rfl, rfl⟩) fun u s2 ⟨x, H2, I2, r2, ex, eh⟩ => ?_
  subst ex
  cases eh
  obtain ⟨t2, rfl⟩ := r2
  generalize hs3 : ({ s2 with heap := s2.heap.push { cls := .type "slice", data := .fields #[Value.none, Value.none, Value.int (-1) t2] } } : Shared) = s3
  have I3 : Inv X pins σ H1 s3 := by
    rw [← hs3]
    exact I2.kept (t' := s2.toks) fun b ob q => Heap.get?_push_of_some _ q
  have hsl : s3.heap.IsSlice s2.heap.objs.size none none (some (-1, t2)) := by
    rw [← hs3]
    exact ⟨_, Heap.get?_push_size _ rfl, rfl, rfl⟩
  show wpAny (model X.prog X.w) X.A (PyProof.Rows.subscriptTail a (.Slice none none (some s1) p2) (.str z t) (.ref s2.heap.objs.size)) (EP X pins σ Q) X.xe s3
  refine PyProof.Rows.tail_any (ops := [.ref s2.heap.objs.size, .str z t]) (typeIs_str _ _ _) F.slot_str_getitem.lookup ?_ (by with_unfolding_all rfl)
  refine wpAny_getItem_str_slice (l := none) (u := none) (st := some (-1, t2)) hsl rfl ?_
  show Made.post (if ((-1 : Int) == 1 && (Builtin.Str.strSliceIndices none none (-1) z.length).length == z.length) = true then Made.val (.str z t) else Made.str ⟨((Builtin.Str.strSliceIndices none none (-1) z.length).filterMap (z.cps[·]?)).toArray⟩) (EP X pins σ Q) s3
  rw [if_neg (by simp), picked_rev]
  exact ⟨by simpa [Str.length] using hz, .str (revS z), H1, I3.tok _, ⟨_, rfl⟩, q1⟩
def eRev (f : E) : E := fun env δ => (f env δ).bind fun r => match r.1 with
  | .str z => if z.length < 1000000 then some (.str (revS z), r.2) else none
  | _ => none
theorem pe_m1c {p3 p4 : Pos} {j : Nat} : PE X (.UnaryOp .USub (.Constant (.int 1) j p3) p4) (tC (.int (-1))) := by
  refine ⟨fun pins s σ H Q I h => ?_⟩
  exact (pe_un un_neg pe_int).run pins s σ H Q I ⟨1, rfl, h⟩
theorem d_rev (ha : DE X a ta f) {p3 p4 : Pos} {j : Nat} : DS X (.Subscript a (.Slice none none (some (.UnaryOp .USub (.Constant (.int 1) j p3) p4)) p2) pos) (fun σ H Q => ta σ H fun x H1 => ∃ z, x = .str z ∧ z.length ≤ sizeLine ∧ Q (.str (revS z)) H1) (eRev f) := by
  refine ⟨pe_strRev ha.p pe_m1c, fun q σ H env δ z δ' Q k ef kq => ?_⟩
  unfold eRev at ef
  cases e1 : f env δ with
  | none => rw [e1] at ef; cases ef
  | some r1 =>
    obtain ⟨x, δ1⟩ := r1
    rw [e1] at ef
    cases x <;> first | (cases ef; done) | skip
    rename_i s
    have ef : (if s.length < 1000000 then some (Dat.str (revS s), δ1) else none) = some (z, δ') := ef
    split at ef
    · rename_i hz
      cases ef
      refine ha.r q σ H env δ _ _ _ k e1 fun v H1 k1 o1 r1 => ?_
      cases r1
      exact ⟨s, rfl, le_line hz, kq _ H1 k1 o1 (.str _)⟩
    · cases ef
/-! ### 10. The dice: a list of whole numbers, shared by all that draw -/
theorem Ok.diceAt {q : Fm} {σ : St} {H : Hp} {env : Ev} {δ : List Int} (k : Ok K mg q σ H env δ) {i : Nat} (he : env[i]? = some (.val .dice)) : ∃ a, q.d = some a ∧ σ[i]? = some (some (.ref a)) ∧ H a = some (.lst (δ.map V.int)) := by
  obtain ⟨v, e1, r⟩ := k.vl i _ he
  cases r with
  | dice h => exact ⟨_, h, e1, k.dc _ h⟩
theorem atI_map {ns : List Int} {i z : Int} (h : L2.atI ns i = some z) : L2.atI (ns.map V.int) i = some (.int z) := by
  unfold L2.atI at h ⊢
  rw [List.length_map]
  cases q : ixN ns.length i with
  | none => rw [q] at h; cases h
  | some j =>
    rw [q] at h
    have h : ns[j]? = some z := h
    show (ns.map V.int)[j]? = _
    rw [List.getElem?_map, h]
    rfl
def eDget (i : Nat) (c : Int) : E := fun env δ => match env[i]? with
  | some (.val .dice) => (L2.atI δ c).map fun z => (.int z, δ)
  | _ => none
theorem d_dget (i : Nat) {z : Int} {j : Nat} {p3 : Pos} (ha : PE X a (tVar i)) (hs : PlainIx (.Constant (.int z) j p3) := by exact fun _ _ => rfl) : DS X (.Subscript a (.Constant (.int z) j p3) pos) (tOp (rIx X.K) (tVar i) (tC (.int z))) (eDget i z) := by
  refine ⟨pe_ix ix_seq ha pe_int hs, fun q σ H env δ x δ' Q k ef kq => ?_⟩
  unfold eDget at ef
  split at ef
  · rename_i he
    obtain ⟨d, hd, e1, e2⟩ := k.diceAt he
    cases e3 : L2.atI δ z with
    | none => rw [e3] at ef; cases ef
    | some y =>
      rw [e3] at ef
      cases ef
      exact ⟨.ref d, e1, .inl ⟨d, _, z, .int y, rfl, rfl, .of e2, atI_map e3, kq _ H .refl k (.int y)⟩⟩
  · cases ef
def eDlen (i : Nat) : E := fun env δ => match env[i]? with
  | some (.val .dice) => some (.int δ.length, δ)
  | _ => none
theorem d_dlen (i : Nat) {p : Pos} (ha : PE X a (tVar i)) (hg : Gl X "len") (hm : X.mg "len" = none) (he : starEach [a] X.env = (false, eval a X.env) :: starEach [] X.env := by rfl) (hpl : (backTo pos (starEach [] X.env)).any (·.1) = false := by rfl) :
    DS X (.Call (.Name "len" p) [a] [] pos) (tCB (rLenU X.K) (tCons (tVar i) tNil)) (eDlen i) := by
  refine ⟨pe_callB call_lenU hg hm PySem.boot_len (pa_cons ha pa_nil he) (by decide) (by decide) he hpl, fun q σ H env δ x δ' Q k ef kq => ?_⟩
  unfold eDlen at ef
  split at ef
  · rename_i he
    cases ef
    obtain ⟨d, hd, e1, e2⟩ := k.diceAt he
    refine ⟨.ref d, e1, .inl ⟨d, _, rfl, .inl (.of e2), ?_⟩⟩
    rw [List.length_map]
    exact kq _ H .refl k (.int _)
  · cases ef
/-- the dice's heap -/
theorem Ok.dput {q : Fm} {σ : St} {H : Hp} {env : Ev} {δ δ' : List Int} (k : Ok K mg q σ H env δ) {d : Addr} (hd : q.d = some d) (hH : H d = some (.lst (δ.map V.int))) :
    Keep (isD q.d) H (upd H d (.lst (δ'.map V.int))) ∧ Ok K mg q σ (upd H d (.lst (δ'.map V.int))) env δ' := by
  have kk : Keep (isD q.d) H (upd H d (.lst (δ'.map V.int))) := .at hH hd rfl rfl rfl
  refine ⟨kk, k.step kk fun a ha => ?_⟩
  have : a = d := by
    have ha : q.d = some a := ha
    rw [hd] at ha
    exact (Option.some.inj ha).symm
  subst this
  exact upd_same
theorem map_eraseIdx : ∀ {l : List Int} {n : Nat}, (l.eraseIdx n).map V.int = (l.map V.int).eraseIdx n := by
  intro l
  induction l with
  | nil => intro n; rfl
  | cons x l ih =>
    intro n
    cases n with
    | zero => rfl
    | succ n => simp [ih]
def eDpop (i : Nat) (c : Nat) : E := fun env δ => match env[i]? with
  | some (.val .dice) => (δ[c]?).map fun z => (.int z, δ.eraseIdx c)
  | _ => none
theorem d_dpop (i c : Nat) (hc : (c : Int) < 2 ^ 63) (h : PE X e (tBM X.K "list" rPopAt (tVar i) (tCons (tC (.int c)) tNil))) : DS X e (tBM X.K "list" rPopAt (tVar i) (tCons (tC (.int c)) tNil)) (eDpop i c) := by
  refine ⟨h, fun q σ H env δ x δ' Q k ef kq => ?_⟩
  unfold eDpop at ef
  split at ef
  · rename_i he
    obtain ⟨d, hd, e1, e2⟩ := k.diceAt he
    cases e3 : δ[c]? with
    | none => rw [e3] at ef; cases ef
    | some y =>
      rw [e3] at ef
      cases ef
      obtain ⟨kk, o1⟩ := k.dput (δ' := δ.eraseIdx c) hd e2
      have hlt : c < δ.length := (List.getElem?_eq_some_iff.mp e3).1
      have hix : ixN (δ.map V.int).length (c : Int) = some c := by
        unfold ixN
        rw [if_pos (Int.natCast_nonneg c), if_pos (by rw [List.length_map]; omega), Int.toNat_natCast]
      refine ⟨.ref d, e1, .inl ⟨rfl, _, .of e2⟩, d, _, (c : Int), c, .int y, rfl, rfl, e2, by omega, hc, (ixN_seq hix).1, by rw [List.getElem?_map, e3]; rfl, ?_⟩
      rw [← map_eraseIdx]
      exact kq _ _ kk o1 (.int y)
  · cases ef
def gDset (i : Nat) (c : Int) (f : E) : Sg := fun env δ => (f env δ).bind fun r => match env[i]?, r.1 with
  | some (.val .dice), .int z => (ixN r.2.length c).map fun j => .nx env (r.2.set j z)
  | _, _ => none
theorem d_dset (i : Nat) {z : Int} {j : Nat} {p3 tp : Pos} (ha : PE X a (tVar i)) (he : DS X e te f)
    (h : PS X (.Assign [.Subscript a (.Constant (.int z) j p3) tp] e pos) (tAsg te (gSub (tVar i) (tC (.int z)) rSetL))) : DSt X (.Assign [.Subscript a (.Constant (.int z) j p3) tp] e pos) (tAsg te (gSub (tVar i) (tC (.int z)) rSetL)) (gDset i z f) := by
  refine ⟨h, fun q σ H env δ o D k ef ko => ?_⟩
  unfold gDset at ef
  cases e1 : f env δ with
  | none => rw [e1] at ef; cases ef
  | some r1 =>
    obtain ⟨x, δ1⟩ := r1
    rw [e1] at ef
    simp only [Option.bind_some] at ef
    split at ef
    · rename_i y hy
      cases e2 : ixN δ1.length z with
      | none => rw [e2] at ef; cases ef
      | some jj =>
        rw [e2] at ef
        cases ef
        refine he.r q σ H env δ _ δ1 _ k e1 fun v H1 k1 o1 r => ?_
        cases r
        obtain ⟨d, hd, s1, h2⟩ := o1.diceAt hy
        obtain ⟨_, o2⟩ := o1.dput (δ' := δ1.set jj y) hd h2
        refine ⟨.ref d, s1, d, _, z, jj, rfl, rfl, h2, by rw [List.length_map]; exact e2, ?_⟩
        rw [← List.map_set]
        exact ko σ _ o2
    · cases ef
end
/-! the dice are made -/
def diceF (z : Int) (ns : List Int) : Int := ns.foldl (fun f c => (f * 31 + (if c < 0 then -c else c)) % 2147483647) z
def bigs (ns : List Int) : List Int := ns.filter fun c => decide (1000000000000000000 ≤ c)
def dice (z : Int) (ns : List Int) : List Int := diceF z ns :: 0 :: bigs ns
def spDice (K : PySem.W.Frag) : Sp := fun vs H Q _ => ∃ (a : Addr) (ns : List Int) (z : Int), vs = [.ref a, .int z] ∧ SqL K H a (ns.map V.int) ∧ ns.length ≤ 63 ∧
  ∀ H' p, Same H H' → H p = none → H' p = some (.lst ((dice z ns).map V.int)) → Q (.ref p) H'
abbrev rAbsV : List V → Hp → VK → Prop := fun xs H Q => ∃ i, xs = [V.int i] ∧ Q (.int (if i < 0 then -i else i)) H
def t_dice (K : PySem.W.Frag) : TS :=
  tSeq (tAsg (tVar 1) (gName 2))
    (tSeq (tFor (iList K (tVar 0)) (gName 3) (tAsg (tOp (rI (fun _ j => 0 < j) fun i j => .int (i % j)) (tOp (rI0 fun i j => .int (i + j)) (tOp (rI CMul fun i j => .int (i * j)) (tVar 2) (tC (.int 31))) (tCB rAbsV (tCons (tVar 3) tNil))) (tC (.int 2147483647))) (gName 2)))
      (tRet (tOp rCat (tLst (tCons (tVar 2) (tCons (tC (.int 0)) tNil))) (tLc (iList K (tVar 0)) (gName 3) (tTest (tOp (rI0 fun i j => .bl (decide (j ≤ i))) (tVar 3) (tOp (rI CPow fun i j => .int (i ^ j.toNat)) (tC (.int 10)) (tC (.int 18))))) (tVar 3) [3]))))
theorem int_at {ns : List Int} {i : Nat} {y : V} (hi : (ns.map V.int)[i]? = some y) : ∃ z, ns[i]? = some z ∧ y = .int z := by
  rw [List.getElem?_map] at hi
  cases e : ns[i]? with
  | none => rw [e] at hi; cases hi
  | some z => rw [e] at hi; exact ⟨z, rfl, (Option.some.inj hi).symm⟩
theorem take_more {α : Type} {l : List α} {i : Nat} {x : α} (h : l[i]? = some x) : l.take (i + 1) = l.take i ++ [x] := by
  rw [List.take_add_one, h]
  rfl
theorem dice_read {K : PySem.W.Frag} {vs : List V} {H : Hp} {Q : VK} {E : XK} {n1 n2 n3 n4 : Str} (h : spDice K vs H Q E) : t_dice K { nx := fun _ H' => Q .non H', rt := Q } (L2.start [n1, n2, n3, n4] vs) H := by
  obtain ⟨a, ns, z, rfl, hS, hlen, k⟩ := h
  refine ⟨_, rfl, ?_⟩
  refine ⟨_, rfl, a, rfl, ⟨_, hS⟩, for_list (K := K) (a := a) (xs := ns.map V.int) (fun i σ H' => ∃ v : Option V, σ = [some (.ref a), some (.int z), some (.int (diceF z (ns.take i))), v] ∧ H' = H)
    ⟨none, rfl, rfl⟩ (fun i σ H' _ ⟨_, _, e⟩ => by rw [e]; exact hS) ?_ ?_⟩
  · rintro i y σ H' hi ⟨v, rfl, rfl⟩
    obtain ⟨c, hc, rfl⟩ := int_at hi
    refine ⟨_, rfl, _, _, rfl, rfl, .inr ⟨by decide, by decide⟩, _, rfl, _, rfl, _, _, rfl, rfl, _, _, rfl, rfl, (by show (0 : Int) < 2147483647; decide), some (.int c), ?_, rfl⟩
    rw [take_more hc]
    unfold diceF
    rw [List.foldl_append]
    rfl
  · rintro σ H' ⟨v, rfl, rfl⟩
    rw [List.length_map, List.take_length]
    refine ⟨_, rfl, (by show 2 ≤ sizeLine; rw [sizeLine_eq]; decide), fun p hp => ?_⟩
    have s1 : Same H' (upd H' p (.lst [.int (diceF z ns), .int 0])) := same_fresh hp
    refine ⟨_, rfl, a, rfl, ⟨_, s1.seq hS⟩, fun D hD => ?_⟩
    have hDp : D ≠ p := fun e => by rw [e, upd_same] at hD; cases hD
    refine lc_list (K := K) (a := a) (xs := ns.map V.int) (fun i H2 => H2 = upd (upd H' p (.lst [.int (diceF z ns), .int 0])) D (.lst ((bigs (ns.take i)).map V.int))) rfl (fun i H2 _ e => ?_) ?_ ?_
    · rw [e]
      exact (same_fresh hD).seq (s1.seq hS)
    · rintro i y H2 hi rfl
      obtain ⟨c, hc, rfl⟩ := int_at hi
      refine ⟨rfl, .int c, rfl, 10, 18, rfl, rfl, ⟨by decide, by decide, by decide⟩, _, _, rfl, rfl, _, rfl, ?_⟩
      have hl : (bigs (ns.take i)).length ≤ i := by
        unfold bigs
        refine Nat.le_trans (List.length_filter_le _ _) ?_
        rw [List.length_take]
        exact Nat.min_le_left _ _
      have hi' : i < ns.length := (List.getElem?_eq_some_iff.mp hc).1
      have e18 : ((10 : Int) ^ (18 : Int).toNat) = 1000000000000000000 := by decide
      rw [e18]
      refine ite2 (fun hb => ?_) (fun hb => ?_)
      · refine ⟨.int c, rfl, _, upd_same, ?_, ?_⟩
        · rw [List.length_map, sizeLine_eq]
          omega
        · rw [upd_upd, take_more hc]
          unfold bigs
          rw [List.filter_append, List.map_append]
          have : (List.filter (fun c => decide (1000000000000000000 ≤ c)) [c]) = [c] := by simp [of_decide_eq_true hb]
          rw [this]
          rfl
      · rw [take_more hc]
        unfold bigs
        rw [List.filter_append, List.map_append]
        have : (List.filter (fun c => decide (1000000000000000000 ≤ c)) [c]) = [] := by
          have hb' : ¬ (1000000000000000000 ≤ c) := fun z => hb (decide_eq_true z)
          simp [hb']
        rw [this]
        simp
    · rintro H2 rfl
      rw [List.length_map, List.take_length]
      have hp2 : upd (upd H' p (.lst [.int (diceF z ns), .int 0])) D (.lst ((bigs ns).map V.int)) p = some (.lst [.int (diceF z ns), .int 0]) := by
        rw [upd_ne hDp.symm, upd_same]
      refine ⟨p, D, _, _, rfl, rfl, hp2, upd_same, ?_, fun p2 h2 => ?_⟩
      · have hl : (bigs ns).length ≤ ns.length := List.length_filter_le _ _
        rw [List.length_map, sizeLine_eq]
        simp
        omega
      · have s3 := (s1.trans (same_fresh hD)).trans (same_fresh (o := .lst ([V.int (diceF z ns), .int 0] ++ (bigs ns).map V.int)) h2)
        refine k _ p2 s3 ?_ upd_same
        exact Same.free (s1.trans (same_fresh hD)) h2
/-! the law begins -/
def spLaw (K : PySem.W.Frag) : Sp := fun vs H Q _ => ∃ (a : Addr) (ns : List Int), vs = [.ref a] ∧ SqL K H a (ns.map V.int) ∧ ns.length ≤ 63 ∧ ∀ H', Q (.bl true) H'
def startL (N : List Str) : Ev := .un :: .val .dice :: List.replicate (N.length - 2) .un
theorem fn_law {P : Program} {w : World} {K : PySem.W.Frag} {mg : Str → Option Value} {base : Heap} {x qual : Str} {st st0 : Stmt} {rest : List Stmt} {f : Addr} {fd : FuncData} {N : List Str} {n0 : Str} {k : Nat} {g : Sg} {z : Int} (F : Fun K x qual st f fd) (S : FnScope N [n0] (defScope st)) (hN : 2 ≤ N.length) (hbody : defBody st = st0 :: rest)
    (hb : ∀ (cdv : Value) (A : Around) (outer : List Env) (s : Shared) (H : Hp) (E : XK), Room k (A.deeper (envOfC qual (defScope st) s.heap.objs.size f cdv)) →
      ∃ t, PS (cxOf CX0 P w K mg base N qual (defScope st) f cdv A outer s H E).nox st0 (tAsg (tCall (spDice K) [] E0 (tCons (tVar 0) (tCons (tC (.int z)) tNil))) (gName 1)) ∧ DSs (cxOf CX0 P w K mg base N qual (defScope st) f cdv A outer s H E).nox rest t g)
    (hg : ∀ ns : List Int, ns.length ≤ 63 → ∃ δ', g (startL N) (dice z ns) = some (.rt (.bl true) δ')) : FnOk P w K mg base CX0 (k + 1) f fd [n0] (spLaw K) := by
  refine F.ok S (fun vs H Q E h => ?_) (fun cdv A outer s H vs Q E hr h => ?_)
  · obtain ⟨a, ns, rfl, _⟩ := h
    rfl
  · obtain ⟨a, ns, rfl, hS, hlen, hQ⟩ := h
    obtain ⟨t, T0, T⟩ := hb cdv A outer s H E hr
    rw [hbody]
    refine ⟨_, pss_cons T0 T.p, ?_⟩
    obtain ⟨δ', eg⟩ := hg ns hlen
    have e0 : L2.start N [V.ref a] = some (V.ref a) :: List.replicate (N.length - 1) none := rfl
    obtain ⟨m, hm⟩ : ∃ m, N.length = m + 2 := ⟨N.length - 2, by omega⟩
    rw [e0, hm]
    refine ⟨_, rfl, a, ns, z, rfl, hS, hlen, fun H1 p s1 np hp => ?_⟩
    have es : (some (V.ref a) :: List.replicate (m + 2 - 1) (none : Option V)).set 1 (some (.ref p)) = some (.ref a) :: some (.ref p) :: List.replicate m none := by
      rw [show m + 2 - 1 = m + 1 by omega, List.replicate_succ]
      rfl
    show t _ ((some (V.ref a) :: List.replicate (m + 2 - 1) (none : Option V)).set 1 (some (.ref p))) H1
    rw [es]
    have hst : startL N = .un :: .val .dice :: List.replicate m .un := by unfold startL; rw [hm]; rfl
    have key : ∀ (i : Nat) (sl : Slot), (startL N)[i]? = some sl → sl = .un ∨ (i = 1 ∧ sl = .val .dice) := by
      intro i sl h
      rw [hst] at h
      match i, h with
      | 0, h => exact .inl (Option.some.inj h).symm
      | 1, h => exact .inr ⟨rfl, (Option.some.inj h).symm⟩
      | i + 2, h => exact .inl (List.eq_of_mem_replicate (List.mem_of_getElem? (show (List.replicate m Slot.un)[i]? = some sl from h)))
    have k0 : Ok K mg ⟨some p, fun b => b = p, H1, [], [], [], fun _ => True⟩ (some (V.ref a) :: some (V.ref p) :: List.replicate m none) H1 (startL N) (dice z ns) := by
      refine ⟨.refl, fun b hb => ?_, fun b hb => ?_, fun b hb => ?_, ?_, fun _ _ _ _ _ => trivial, fun i x e => ?_, fun i l e => ?_, fun i j l l' a e => ?_, .nil, fun a l e => ?_⟩
      · cases hb
        exact hp
      · cases hb
        rfl
      · cases hb
        show H1 p ≠ none
        rw [hp]
        intro q; cases q
      · rw [hst]
        simp
      · rcases key i _ e with q | ⟨rfl, q⟩
        · cases q
        · cases q
          exact ⟨.ref p, rfl, .dice rfl⟩
      · rcases key i _ e with q | ⟨_, q⟩ <;> cases q
      · rcases key i _ e with q | ⟨_, q⟩ <;> cases q
      · cases e
    refine T.r _ _ _ _ _ _ _ k0 eg ?_
    intro v H2 _ _ r
    cases r
    exact hQ H2
end Dl

namespace Dl
open PySem PySem.Spec L2
open PyProof.Rows (envOfC)
/-! ### 11. What the generated terms use -/
structure Has (K : PySem.W.Frag) (mg : Str → Option Value) (nm : Str) (st : Stmt) (ps : List Str) (f : Addr) (fd : FuncData) : Prop where
  F : Fun K nm nm st f fd
  m : mg nm = some (.ref f)
  b : Binds K fd ps []
/-- the name calls a def that keeps G -/
def OkG (P : Program) (w : World) (K : PySem.W.Frag) (mg : Str → Option Value) (base : Heap) (k : Nat) (nm : Str) (ps : List Str) (G : GF) : Prop :=
  ∃ (f : Addr) (fd : FuncData), mg nm = some (.ref f) ∧ PySem.W.keepIn K (.ref f) = true ∧ Binds K fd ps [] ∧ FnG P w K mg base k f fd ps G
theorem OkG.mono {P : Program} {w : World} {K : PySem.W.Frag} {mg : Str → Option Value} {base : Heap} {k j : Nat} {nm : Str} {ps : List Str} {G : GF} (h : OkG P w K mg base k nm ps G) (hj : k ≤ j) : OkG P w K mg base j nm ps G := by
  obtain ⟨f, fd, h1, h2, h3, h4⟩ := h
  exact ⟨f, fd, h1, h2, h3, h4.mono hj⟩
theorem Has.ok {P : Program} {w : World} {K : PySem.W.Frag} {mg : Str → Option Value} {base : Heap} {k : Nat} {nm : Str} {st : Stmt} {ps N : List Str} {f : Addr} {fd : FuncData} {g : Sg} (h : Has K mg nm st ps f fd) (S : FnScope N ps (defScope st))
    (hb : ∀ (cdv : Value) (A : Around) (outer : List Env) (s : Shared) (H : Hp) (E : XK), Room k (A.deeper (envOfC nm (defScope st) s.heap.objs.size f cdv)) →
      ∃ t, DSs (cxOf CX0 P w K mg base N nm (defScope st) f cdv A outer s H E).nox (defBody st) t g) : OkG P w K mg base (k + 1) nm ps (runG N g) :=
  ⟨f, fd, h.m, h.F.kp, h.b, fn_g h.F S hb⟩
/-- nothing is promised -/
theorem Has.zero {P : Program} {w : World} {K : PySem.W.Frag} {mg : Str → Option Value} {base : Heap} {k : Nat} {nm : Str} {st : Stmt} {ps : List Str} {f : Addr} {fd : FuncData} (h : Has K mg nm st ps f fd) : OkG P w K mg base k nm ps (fun _ _ => none) := by
  refine ⟨f, fd, h.m, h.F.kp, h.b, fun vs H Q E z => ?_, fun A outer s H args us vs Q E _ _ _ _ z => ?_⟩
  · obtain ⟨d, M, xs, δ, y, δ', hl, _, _, _, r, hG, _⟩ := z
    cases hG
  · obtain ⟨d, M, xs, δ, y, δ', hl, _, _, _, r, hG, _⟩ := z
    cases hG
section
variable {X : Cx} {e a b c elt iter tg : Expr} {es ifs : List Expr} {t ta tb te : TE} {f g fe : E} {ft : ET} {fi fr : EA} {gd : GT} {tgd : TG} {tt : TT} {wi : TI} {ts : List Nat} {tr : TA} {pos p : Pos} {nm : Str}
theorem d_callO {kk : Nat} {ps : List Str} {G : GF} (h : OkG X.prog X.w X.K X.mg X.base kk nm ps G) (hr : Room kk X.A) (hg : Gl X nm)
    (ha : DA X (e :: es) tr fr) (hdb : (nm == ("__debug__" : Str)) = false := by decide) (he : starEach (e :: es) X.env = (false, eval e X.env) :: starEach es X.env := by rfl) (hpl : (backTo pos (starEach es X.env)).any (·.1) = false := by rfl) :
    DS X (.Call (.Name nm p) (e :: es) [] pos) (tCall (spG X.K X.mg ps.length G) [] E0 tr) (eCall G ps.length fr) := by
  obtain ⟨ff, fd, h1, h2, h3, h4⟩ := h
  exact d_call h4 hr hg h1 h2 h3 ha hdb he hpl
def gNever : Sg := fun _ _ => none
theorem d_never {sts : List Stmt} : DSs X sts tNever gNever := ⟨pss_never, fun _ _ _ _ _ _ _ _ e _ => by cases e⟩
theorem d_never1 {st : Stmt} : DSt X st tNever gNever := ⟨ps_never, fun _ _ _ _ _ _ _ _ e _ => by cases e⟩
/-- name = [..] on one line -/
theorem d_setLc {i : Nat} {y : Str} {py spos : Pos} {scope : Scope} {own : List (Str × Nat)} (hc : X.calm = true) (hN : X.N.Nodup) (hy : X.N[i]? = some y) (hyl : X.env.scope.names.lookup y = some .local)
    (hsw : swapsWith (.ListComp elt [⟨tg, iter, ifs, 0⟩] scope pos) (some (.Name y py)) spos.line X.env = pure true) (hi : DI X tg iter wi fi) (ok : BlkOk X.N X.env.scope scope own)
    (hg : ∀ (s : Shared) (H : Hp) (C : Addr) (cl : List (Str × Addr)) (fp : List Addr), DG (X.blk s H scope (compEnvC scope cl C X.env) fp) tg tgd gd ts)
    (ht : ∀ (s : Shared) (H : Hp) (C : Addr) (cl : List (Str × Addr)) (fp : List Addr), DTs (X.blk s H scope (compEnvC scope cl C X.env) fp) ifs tt ft)
    (he : ∀ (s : Shared) (H : Hp) (C : Addr) (cl : List (Str × Addr)) (fp : List Addr), DS (X.blk s H scope (compEnvC scope cl C X.env) fp) elt te fe)
    (hts : ∀ j ∈ ts, j ∈ own.map (·.2) := by decide) (hs : ∀ x, foldedSetIterable iter X.env x = pure x := by intro _; rfl) :
    DSt X (.Assign [.Name y py] (.ListComp elt [⟨tg, iter, ifs, 0⟩] scope pos) spos) (tAsg (tLc wi tgd tt te (own.map (·.2))) (gName i)) (gAsg (tgName i) (eF (fLc fi gd ft fe (own.map (·.2))))) := by
  have P0 := ps_setLc (i := i) hc hN hy hyl hsw hi.p ok (fun s H C cl fp => (hg s H C cl fp).p) (fun s H C cl fp => (ht s H C cl fp).p) (fun s H C cl fp => (he s H C cl fp).p) hs
  refine ⟨P0, ?_⟩
  have R0 := (d_lc (pos := pos) hc hN hi ok hg ht he hts hs).s.r
  exact rs_asg R0 (rg_name i)
theorem d_ownLc {i : Nat} {y : Str} {py spos : Pos} {scope : Scope} {own : List (Str × Nat)} (hc : X.calm = true) (hN : X.N.Nodup) (hy : X.N[i]? = some y) (hyl : X.env.scope.names.lookup y = some .local)
    (hsw : swapsWith (.ListComp elt [⟨tg, iter, ifs, 0⟩] scope pos) (some (.Name y py)) spos.line X.env = pure true) (hi : DI X tg iter wi fi) (ok : BlkOk X.N X.env.scope scope own)
    (hg : ∀ (s : Shared) (H : Hp) (C : Addr) (cl : List (Str × Addr)) (fp : List Addr), DG (X.blk s H scope (compEnvC scope cl C X.env) fp) tg tgd gd ts)
    (ht : ∀ (s : Shared) (H : Hp) (C : Addr) (cl : List (Str × Addr)) (fp : List Addr), DTs (X.blk s H scope (compEnvC scope cl C X.env) fp) ifs tt ft)
    (he : ∀ (s : Shared) (H : Hp) (C : Addr) (cl : List (Str × Addr)) (fp : List Addr), DS (X.blk s H scope (compEnvC scope cl C X.env) fp) elt te fe)
    (hts : ∀ j ∈ ts, j ∈ own.map (·.2) := by decide) (hs : ∀ x, foldedSetIterable iter X.env x = pure x := by intro _; rfl) :
    DSt X (.Assign [.Name y py] (.ListComp elt [⟨tg, iter, ifs, 0⟩] scope pos) spos) (tAsg (tLc wi tgd tt te (own.map (·.2))) (gName i)) (gOwn i (fLc fi gd ft fe (own.map (·.2)))) := by
  have P0 := ps_setLc (i := i) hc hN hy hyl hsw hi.p ok (fun s H C cl fp => (hg s H C cl fp).p) (fun s H C cl fp => (ht s H C cl fp).p) (fun s H C cl fp => (he s H C cl fp).p) hs
  refine ⟨P0, ?_⟩
  have R0 := (d_lc (pos := pos) hc hN hi ok hg ht he hts hs).r
  intro q σ H env δ o D k ef ko
  unfold gOwn at ef
  cases e1 : fLc fi gd ft fe (own.map (·.2)) env δ with
  | none => rw [e1] at ef; cases ef
  | some r1 =>
    rw [e1] at ef
    cases ef
    exact R0 q σ H env δ r1.1 r1.2 _ k e1 fun p H1 k1 hp o1 => ko _ H1 (o1.goOwn hp i)
/-- list(x) -/
def fList (fr : EA) : EA := fun env δ => (fr env δ).bind fun r => match r.1 with
  | [.lst xs] => some (xs, r.2)
  | _ => none
abbrev rListV (K : PySem.W.Frag) : List V → Hp → VK → Prop := fun xs H Q => ∃ p ys, xs = [V.ref p] ∧ (SqL K H p ys ∨ SqT K H p ys) ∧ ∀ l, H l = none → Q (.ref l) (upd H l (.lst ys))
theorem d_list (hg : Gl X "list") (hm : X.mg "list" = none) (ha : DAB X (e :: es) tr fr) (he : starEach (e :: es) X.env = (false, eval e X.env) :: starEach es X.env := by rfl) (hpl : (backTo pos (starEach es X.env)).any (·.1) = false := by rfl) :
    DF X (.Call (.Name "list" p) (e :: es) [] pos) (tCB (rListV X.K) tr) (fList fr) := by
  refine ⟨pe_callTy call_list_of hg hm PyProof.Rows.boot_list ha.p (by decide) (by decide) he hpl, fun q σ H env δ l δ' Q k ef kq => ?_⟩
  unfold fList at ef
  cases e1 : fr env δ with
  | none => rw [e1] at ef; cases ef
  | some r1 =>
    obtain ⟨xs, δ1⟩ := r1
    rw [e1] at ef
    simp only [Option.bind_some] at ef
    split at ef
    · cases ef
      refine ha.r q σ H env δ _ _ _ k e1 fun vs H1 k1 o1 r1 => ?_
      obtain ⟨v, rfl, r⟩ := bs1 r1
      obtain ⟨a, ws, rfl, e2, _, r⟩ := r
      refine ⟨a, ws, rfl, .inl (.of e2), fun p hp => ?_⟩
      obtain ⟨o2, h2⟩ := o1.pushGo hp r
      exact kq p _ (k1.trans (.fresh hp)) h2 o2
    · cases ef
/-- y.append(x.pop(e)), x.pop(e) -/
def gAppPop (i j : Nat) (f : E) : Sg := fun env δ => (f env δ).bind fun r => match env[i]?, env[j]?, r.1 with
  | some (.own (.lst, l)), some (.own (.lst, m)), .int z => if l.length < 1000000 ∧ i ≠ j ∧ -(2 ^ 63) ≤ z ∧ z < 2 ^ 63 then (ixN m.length z).bind fun n => (m[n]?).map fun y => .nx ((env.set j (.own (.lst, (m.eraseIdx n)))).set i (.own (.lst, (l ++ [y])))) r.2 else none
  | _, _, _ => none
theorem d_appPop (i j : Nat) {st : Stmt} (hf : DS X e te f) (h : PS X st (tDrop (tBM X.K "list" rAppend (tVar i) (tCons (tBM X.K "list" rPopAt (tVar j) (tCons te tNil)) tNil)))) : DSt X st (tDrop (tBM X.K "list" rAppend (tVar i) (tCons (tBM X.K "list" rPopAt (tVar j) (tCons te tNil)) tNil))) (gAppPop i j f) := by
  refine ⟨h, fun q σ H env δ o D k ef ko => ?_⟩
  unfold gAppPop at ef
  cases e1 : f env δ with
  | none => rw [e1] at ef; cases ef
  | some r1 =>
    obtain ⟨z, δ1⟩ := r1
    rw [e1] at ef
    simp only [Option.bind_some] at ef
    split at ef
    · rename_i l m z hl hm
      split at ef
      · rename_i hc
        cases e2 : ixN m.length z with
        | none => rw [e2] at ef; cases ef
        | some n =>
          rw [e2] at ef
          simp only [Option.bind_some] at ef
          cases e3 : m[n]? with
          | none => rw [e3] at ef; cases ef
          | some yy =>
            rw [e3] at ef
            cases ef
            obtain ⟨a, vs, s1, g1, g3, gr⟩ := k.owL i l hl
            obtain ⟨b, ws, s2, g4, g5, gs⟩ := k.owL j m hm
            refine ⟨.ref a, s1, .inl ⟨rfl, vs, .of g3⟩, .ref b, s2, .inl ⟨rfl, ws, .of g5⟩, ?_⟩
            refine hf.r q σ H env δ (.int z) δ1 _ k e1 fun v H1 k1 o1 r => ?_
            cases r
            obtain ⟨a', vs', s1', g1', g3', gr'⟩ := o1.owL i l hl
            rw [s1] at s1'; cases s1'
            obtain ⟨b', ws', s2', g4', g5', gs'⟩ := o1.owL j m hm
            rw [s2] at s2'; cases s2'
            obtain ⟨u, e4, ru⟩ := gs'.get e3
            have hix : ixN ws'.length z = some n := by rw [gs'.length]; exact e2
            have o2 := o1.ownUpd hm s2 (gs'.eraseIdx n)
            have nab : a ≠ b := fun z => hc.2.1 (o1.ds i j _ _ a hl hm s1 (by rw [z]; exact s2))
            have hl2 : (env.set j (.own (.lst, (m.eraseIdx n))))[i]? = some (.own (.lst, l)) := by rw [List.getElem?_set_ne (fun z => hc.2.1 z.symm)]; exact hl
            refine ⟨b, ws', z, n, u, rfl, rfl, g5', hc.2.2.1, hc.2.2.2, (ixN_seq hix).1, e4, ?_⟩
            refine ⟨a, vs', u, rfl, rfl, by rw [upd_ne nab]; exact g3', by rw [gr'.length]; exact lt_line hc.1, ?_⟩
            obtain ⟨a2, vs2, s3, h1, h3, hr3⟩ := o2.owL i l hl2
            rw [s1] at s3; cases s3
            rw [upd_ne nab, g3'] at h3
            cases h3
            refine ko σ _ (o2.ownUpd hl2 s1 (hr3.append (.cons ?_ .nil)))
            have hK : Keep (NN q σ env) H1 (upd H1 b (.lst (ws'.eraseIdx n))) := .at g5' (.inr (.inr ⟨j, _, hm, s2⟩)) rfl rfl rfl
            refine Rp.keep hK (fun c z => .inl ?_) _ _ ru
            rcases z with z | z | ⟨j2, l2, z1, z2⟩
            · exact .inl z
            · exact .inr (.inl z)
            · rcases get_set_some z1 with ⟨rfl, e', _⟩ | ⟨_, z1'⟩
              · exact .inr (.inr ⟨_, _, hm, z2⟩)
              · exact .inr (.inr ⟨j2, l2, z1', z2⟩)
      · cases ef
    · cases ef
/-- a name of the module: a written dict with text keys -/
def KdO (K : PySem.W.Frag) (w : World) (mg : Str → Option Value) (nm : Str) (ad : Addr) (tbl : Str → Option Dat) : Prop := mg nm = some (.ref ad) ∧ ∀ z y, tbl z = some y → ∃ v, KDct K w ad z v ∧ ∀ d N H, Rp K mg d N H v y
theorem d_kdO {ad : Addr} {tbl : Str → Option Dat} (h : KdO X.K X.w X.mg nm ad tbl) (hg : Gl X nm) (hb : DE X b tb g) (hd : (nm == ("__debug__" : Str)) = false := by decide) (hs : PlainIx b := by exact fun _ _ => rfl) :
    DS X (.Subscript (.Name nm p) b pos) (tOp (rIxD X.K X.w) (tC (.ref ad)) tb) (eKd tbl g) := d_kd hg h.1 h.2 hb hd hs
end
/-! short names of readings -/
abbrev r_sub : R2 := rI0 fun i j => .int (i - j)
abbrev r_mul : R2 := rI CMul fun i j => .int (i * j)
abbrev r_mod : R2 := rI (fun _ j => 0 < j) fun i j => .int (i % j)
abbrev r_fdiv : R2 := rI CDiv fun i j => .int (i / j)
abbrev r_pow : R2 := rI CPow fun i j => .int (i ^ j.toNat)
abbrev r_lt : R2 := rI0 fun i j => .bl (decide (i < j))
abbrev r_le : R2 := rI0 fun i j => .bl (decide (i ≤ j))
abbrev r_gt : R2 := rI0 fun i j => .bl (decide (j < i))
abbrev r_ge : R2 := rI0 fun i j => .bl (decide (j ≤ i))
abbrev t_neg (t : TE) : TE := tUn (rU fun i => .int (-i)) t
abbrev t_tru (K : PySem.W.Frag) (t : TE) : TT := fun σ H Q => t σ H fun x H' => ∃ k, TruV K x H' k ∧ Q k H'
abbrev t_rev (t : TE) : TE := fun σ H Q => t σ H fun x H1 => ∃ z, x = .str z ∧ z.length ≤ sizeLine ∧ Q (.str (revS z)) H1
abbrev r_sl (K : PySem.W.Frag) : V → Option Int → Option Int → Hp → VK → Prop := fun x l u H Q => rSlS x l u H Q ∨ rSlL K x l u H Q
theorem rpTup2 {K : PySem.W.Frag} {mg : Str → Option Value} {t : Addr} {dd : Option Addr} {m : Nat} {sl : Array (Option Value)} {i j : Int} {k k' : Tok} (q : K.lookup t = some ⟨.type "tuple", dd, .seq #[.int i k, .int j k'] m, sl⟩) (d : Option Addr) (N : Addr → Prop) (H : Hp) :
    Rp K mg d N H (.ref t) (.ctup [.int i, .int j]) :=
  .ctup (vs := [.int i, .int j]) (.inr ⟨_, _, _, q, rfl, rfl, (by rw [sizeLine_eq]; show 2 ≤ _; decide), .cons ⟨_, rfl⟩ (.cons ⟨_, rfl⟩ .nil)⟩) (.cons (.int _) (.cons (.int _) .nil))
end Dl

namespace Dl
open PySem PySem.Spec L2
/-! ### 12. Reckoning: one lemma a word -/
section
variable {env e1 e2 : Ev} {δ δ1 δ2 δ3 δ4 : List Int} {i j n : Nat} {x y z u : Dat} {xs ys : List Dat} {l : List Dat} {f g h fe : E} {c d ft : ET} {fr fi : EA} {fl fh : EO} {gd : GT} {gs : GTs} {g1 g2 b : Sg} {F Gg : Dat → Dat → Option Dat} {F1 : Dat → Option Dat} {FC : List Dat → Option Dat} {G : GF} {o : Out} {k : Bool}
theorem eVar_s (h : env[i]? = some (.val x)) : eVar i env δ = some (x, δ) := by unfold eVar; rw [h]
theorem eVarB_v (h : env[i]? = some (.val x)) : eVarB i env δ = some (x, δ) := by unfold eVarB; rw [h]
theorem eVarB_o (h : env[i]? = some (.own (.lst, l))) : eVarB i env δ = some (.lst l, δ) := by unfold eVarB; rw [h]; rfl
theorem eC_s : eC x env δ = some (x, δ) := rfl
theorem eOp_s (h1 : f env δ = some (x, δ1)) (h2 : g env δ1 = some (y, δ2)) (h3 : F x y = some z) : eOp F f g env δ = some (z, δ2) := by
  unfold eOp; rw [h1]; simp [h2, h3]
theorem eUn_s (h1 : f env δ = some (x, δ1)) (h3 : F1 x = some z) : eUn F1 f env δ = some (z, δ1) := by unfold eUn; rw [h1]; simp [h3]
theorem eTest_s (h : f env δ = some (.bl k, δ1)) : eTest f env δ = some (k, δ1) := by unfold eTest; rw [h]; rfl
theorem eAndT_t (h1 : c env δ = some (true, δ1)) (h2 : d env δ1 = some (k, δ2)) : eAndT c d env δ = some (k, δ2) := by unfold eAndT; rw [h1]; simp [h2]
theorem eAndT_f (h1 : c env δ = some (false, δ1)) : eAndT c d env δ = some (false, δ1) := by unfold eAndT; rw [h1]; rfl
theorem eOrT_t (h1 : c env δ = some (true, δ1)) : eOrT c d env δ = some (true, δ1) := by unfold eOrT; rw [h1]; rfl
theorem eOrT_f (h1 : c env δ = some (false, δ1)) (h2 : d env δ1 = some (k, δ2)) : eOrT c d env δ = some (k, δ2) := by unfold eOrT; rw [h1]; simp [h2]
theorem eNotT_s (h1 : c env δ = some (k, δ1)) : eNotT c env δ = some (!k, δ1) := by unfold eNotT; rw [h1]; rfl
theorem eAnd_t (h1 : f env δ = some (.bl true, δ1)) (h2 : g env δ1 = some (x, δ2)) : eAnd f g env δ = some (x, δ2) := by unfold eAnd; rw [h1]; simp [h2]
theorem eAnd_f (h1 : f env δ = some (.bl false, δ1)) : eAnd f g env δ = some (.bl false, δ1) := by unfold eAnd; rw [h1]; rfl
theorem eOr_t (h1 : f env δ = some (.bl true, δ1)) : eOr f g env δ = some (.bl true, δ1) := by unfold eOr; rw [h1]; rfl
theorem eOr_f (h1 : f env δ = some (.bl false, δ1)) (h2 : g env δ1 = some (x, δ2)) : eOr f g env δ = some (x, δ2) := by unfold eOr; rw [h1]; simp [h2]
theorem eNot_s (h1 : f env δ = some (.bl k, δ1)) : eNot f env δ = some (.bl (!k), δ1) := by unfold eNot; rw [h1]; rfl
theorem eTru_s (h1 : f env δ = some (x, δ1)) (h2 : truD x = some k) : eTru f env δ = some (k, δ1) := by unfold eTru; rw [h1]; simp [h2]
theorem eIf_t (h1 : c env δ = some (true, δ1)) (h2 : f env δ1 = some (x, δ2)) : eIf c f g env δ = some (x, δ2) := by unfold eIf; rw [h1]; simp [h2]
theorem eIf_f (h1 : c env δ = some (false, δ1)) (h2 : g env δ1 = some (x, δ2)) : eIf c f g env δ = some (x, δ2) := by unfold eIf; rw [h1]; simp [h2]
theorem aNil_s : aNil env δ = some ([], δ) := rfl
theorem aCons_s (h1 : f env δ = some (x, δ1)) (h2 : fr env δ1 = some (xs, δ2)) : aCons f fr env δ = some (x :: xs, δ2) := by unfold aCons; rw [h1]; simp [h2]
theorem eTup_s (h1 : fr env δ = some (xs, δ1)) (h2 : xs.length < 1000000) : eTup fr env δ = some (.tup xs, δ1) := by unfold eTup; rw [h1]; simp [h2]
theorem eLst_s (h1 : fr env δ = some (xs, δ1)) (h2 : xs.length < 1000000) : eLst fr env δ = some (.lst xs, δ1) := by unfold eLst; rw [h1]; simp [h2]
theorem fLst_s (h1 : fr env δ = some (xs, δ1)) (h2 : xs.length < 1000000) : fLst fr env δ = some (xs, δ1) := by unfold fLst; rw [h1]; simp [h2]
theorem eF_s (h1 : fr env δ = some (xs, δ1)) : eF fr env δ = some (.lst xs, δ1) := by unfold eF; rw [h1]; rfl
theorem eB_s (h1 : fr env δ = some (xs, δ1)) (h2 : FC xs = some z) : eB FC fr env δ = some (z, δ1) := by unfold eB; rw [h1]; simp [h2]
theorem eCall_s {r : Dat × List Int} (h1 : fr env δ = some (xs, δ1)) (hl : xs.length = n) (h2 : G xs δ1 = some r) : eCall G n fr env δ = some r := by unfold eCall; rw [h1]; simp [hl, h2]
theorem eDget_s {cc zz : Int} (h1 : env[i]? = some (.val .dice)) (h2 : L2.atI δ cc = some zz) : eDget i cc env δ = some (.int zz, δ) := by unfold eDget; rw [h1]; simp [h2]
theorem eDlen_s (h1 : env[i]? = some (.val .dice)) : eDlen i env δ = some (.int δ.length, δ) := by unfold eDlen; rw [h1]
theorem eDpop_s {zz : Int} (h1 : env[i]? = some (.val .dice)) (h2 : δ[n]? = some zz) : eDpop i n env δ = some (.int zz, δ.eraseIdx n) := by unfold eDpop; rw [h1]; simp [h2]
theorem oNone_s : oNone env δ = some (none, δ) := rfl
theorem oSome_s {zz : Int} (h1 : f env δ = some (.int zz, δ1)) : oSome f env δ = some (some zz, δ1) := by unfold oSome; rw [h1]; rfl
theorem eSl_s {lo hi : Option Int} (h1 : f env δ = some (x, δ1)) (h2 : fl env δ1 = some (lo, δ2)) (h3 : fh env δ2 = some (hi, δ3)) (h4 : dSl x lo hi = some z) : eSl f fl fh env δ = some (z, δ3) := by
  unfold eSl; rw [h1]; simp [h2, h3, h4]
theorem eRev_s {s : Str} (h1 : f env δ = some (.str s, δ1)) (h2 : s.length < 1000000) : eRev f env δ = some (.str (revS s), δ1) := by unfold eRev; rw [h1]; simp [h2]
theorem eKd_s {tbl : Str → Option Dat} {s : Str} (h1 : f env δ = some (.str s, δ1)) (h2 : tbl s = some x) : eKd tbl f env δ = some (x, δ1) := by unfold eKd; rw [h1]; simp [h2]
theorem eIsi_s {T m : String} (h1 : f env δ = some (x, δ1)) (h2 : tyN x = some m) (h3 : kitB m T = some k) : eIsi T f env δ = some (.bl k, δ1) := by unfold eIsi; rw [h1]; simp [h2, h3]
theorem eChain_f (h1 : f env δ = some (x, δ1)) (h2 : g env δ1 = some (y, δ2)) (h3 : F x y = some (.bl false)) : eChain F Gg f g h env δ = some (.bl false, δ2) := by unfold eChain; rw [h1]; simp [h2, h3]
theorem eChain_t (h1 : f env δ = some (x, δ1)) (h2 : g env δ1 = some (y, δ2)) (h3 : F x y = some (.bl true)) (h4 : h env δ2 = some (z, δ3)) (h5 : Gg y z = some u) : eChain F Gg f g h env δ = some (u, δ3) := by unfold eChain; rw [h1]; simp [h2, h3, h4, h5]
/-! statements -/
theorem gSeq_n (h1 : g1 env δ = some (.nx e1 δ1)) (h2 : g2 e1 δ1 = some o) : gSeq g1 g2 env δ = some o := by unfold gSeq; rw [h1]; exact h2
theorem gSeq_r (h1 : g1 env δ = some (.rt x δ1)) : gSeq g1 g2 env δ = some (.rt x δ1) := by unfold gSeq; rw [h1]; rfl
theorem gSeq_b (h1 : g1 env δ = some (.bk e1 δ1)) : gSeq g1 g2 env δ = some (.bk e1 δ1) := by unfold gSeq; rw [h1]; rfl
theorem gSeq_c (h1 : g1 env δ = some (.ct e1 δ1)) : gSeq g1 g2 env δ = some (.ct e1 δ1) := by unfold gSeq; rw [h1]; rfl
theorem gIf_t (h1 : c env δ = some (true, δ1)) (h2 : g1 env δ1 = some o) : gIf c g1 g2 env δ = some o := by unfold gIf; rw [h1]; simp [h2]
theorem gIf_f (h1 : c env δ = some (false, δ1)) (h2 : g2 env δ1 = some o) : gIf c g1 g2 env δ = some o := by unfold gIf; rw [h1]; simp [h2]
theorem gRet_s (h1 : f env δ = some (x, δ1)) : gRet f env δ = some (.rt x δ1) := by unfold gRet; rw [h1]; rfl
theorem gRetOwn_s (h1 : env[i]? = some (.own (.lst, l))) : gRetOwn i env δ = some (.rt (.lst l) δ) := by unfold gRetOwn; rw [h1]
theorem gNext_s : gNext env δ = some (.nx env δ) := rfl
theorem gAsg_s (h1 : f env δ = some (x, δ1)) (h2 : gd x env = some e1) : gAsg gd f env δ = some (.nx e1 δ1) := by unfold gAsg; rw [h1]; simp [h2]
theorem gOwn_s (h1 : fr env δ = some (l, δ1)) : gOwn i fr env δ = some (.nx (env.set i (.own (.lst, l))) δ1) := by unfold gOwn; rw [h1]; rfl
theorem gAppend_s (h1 : f env δ = some (x, δ1)) (h2 : env[i]? = some (.own (.lst, l))) (h3 : l.length < 1000000) : gAppend i f env δ = some (.nx (env.set i (.own (.lst, (l ++ [x])))) δ1) := by unfold gAppend; rw [h1]; simp [h2, h3]
theorem gPop_s (h2 : env[i]? = some (.own (.lst, l))) (h3 : l ≠ []) : gPop i env δ = some (.nx (env.set i (.own (.lst, l.dropLast))) δ) := by unfold gPop; rw [h2]; simp [h3]
theorem gFreeze_s (h2 : env[i]? = some (.own (.lst, l))) (h3 : g1 (env.set i (.val (.lst l))) δ = some o) : gFreeze i g1 env δ = some o := by unfold gFreeze; rw [h2]; exact h3
theorem gDset_s {cc zz : Int} (h1 : f env δ = some (.int zz, δ1)) (h2 : env[i]? = some (.val .dice)) (h3 : ixN δ1.length cc = some j) : gDset i cc f env δ = some (.nx env (δ1.set j zz)) := by unfold gDset; rw [h1]; simp [h2, h3]
theorem gFor_s (h1 : fi env δ = some (xs, δ1)) (h2 : forD gd b xs env δ1 = some o) : gFor fi gd b env δ = some o := by unfold gFor; rw [h1]; exact h2
theorem forD_nil : forD gd b [] env δ = some (.nx env δ) := rfl
theorem forD_n (h1 : gd x env = some e1) (h2 : b e1 δ = some (.nx e2 δ1)) (h3 : forD gd b xs e2 δ1 = some o) : forD gd b (x :: xs) env δ = some o := by
  show ((gd x env).bind fun env1 => _) = _
  rw [h1]
  simp [h2, h3]
theorem forD_r (h1 : gd x env = some e1) (h2 : b e1 δ = some (.rt y δ1)) : forD gd b (x :: xs) env δ = some (.rt y δ1) := by
  show ((gd x env).bind fun env1 => _) = _
  rw [h1]
  simp [h2]
theorem while_t (h1 : c env δ = some (true, δ1)) (h2 : b env δ1 = some (.nx e1 δ2)) (h3 : whileD c b n e1 δ2 = some o) : whileD c b (n + 1) env δ = some o := by
  unfold whileD
  rw [h1]
  simp [h2, h3]
theorem while_r (h1 : c env δ = some (true, δ1)) (h2 : b env δ1 = some (.rt x δ2)) : whileD c b (n + 1) env δ = some (.rt x δ2) := by
  unfold whileD
  rw [h1]
  simp [h2]
theorem while_f (h1 : c env δ = some (false, δ1)) : whileD c b (n + 1) env δ = some (.nx env δ1) := by
  unfold whileD
  rw [h1]
  simp
/-! what is walked; comprehensions -/
theorem iLst_s (h1 : f env δ = some (.lst xs, δ1)) : iLst f env δ = some (xs, δ1) := by unfold iLst; rw [h1]; rfl
theorem iTupD_s (h1 : f env δ = some (.tup xs, δ1)) : iTupD f env δ = some (xs, δ1) := by unfold iTupD; rw [h1]; rfl
theorem iStrD_s {s : Str} (h1 : f env δ = some (.str s, δ1)) : iStrD f env δ = some (s.cps.toList.map fun c => .str ⟨#[c]⟩, δ1) := by unfold iStrD; rw [h1]; rfl
theorem iR1_s {zz : Int} (h1 : fr env δ = some ([.int zz], δ1)) (h2 : bnd zz = true) : iR1 fr env δ = some (rangeD 0 zz, δ1) := by unfold iR1; rw [h1]; simp [h2]
theorem iR2_s {zz ww : Int} (h1 : fr env δ = some ([.int zz, .int ww], δ1)) (h2 : (bnd zz && bnd ww) = true) : iR2 fr env δ = some (rangeD zz ww, δ1) := by unfold iR2; rw [h1]; simp only [Option.bind_some, h2, if_true]
theorem fLc_s {vs : List Nat} (h1 : fi env δ = some (xs, δ1)) (h2 : xs.length < 1000000) (h3 : noOwn env vs = true) (h4 : lcD gd ft fe (wipeE env vs) xs δ1 = some (l, δ2)) : fLc fi gd ft fe vs env δ = some (l, δ2) := by
  unfold fLc; rw [h1]; simp [h2, h3, h4]
theorem lc_nil : lcD gd ft fe env [] δ = some ([], δ) := rfl
theorem lc_t (h1 : gd x env = some e1) (h2 : ft e1 δ = some (true, δ1)) (h3 : fe e1 δ1 = some (y, δ2)) (h4 : lcD gd ft fe env xs δ2 = some (ys, δ3)) : lcD gd ft fe env (x :: xs) δ = some (y :: ys, δ3) := by
  show ((gd x env).bind fun e1 => _) = _
  rw [h1]
  simp [h2, h3, h4]
theorem lc_f (h1 : gd x env = some e1) (h2 : ft e1 δ = some (false, δ1)) (h4 : lcD gd ft fe env xs δ1 = some (ys, δ3)) : lcD gd ft fe env (x :: xs) δ = some (ys, δ3) := by
  show ((gd x env).bind fun e1 => _) = _
  rw [h1]
  simp [h2, h4]
theorem eYes_s : eYes env δ = some (true, δ) := rfl
/-- each item gives one, the dice stay -/
theorem lc_map {φ : Dat → Dat} : ∀ {xs : List Dat}, (∀ x ∈ xs, ∃ e1, gd x env = some e1 ∧ ft e1 δ = some (true, δ) ∧ fe e1 δ = some (φ x, δ)) → lcD gd ft fe env xs δ = some (xs.map φ, δ)
  | [], _ => rfl
  | x :: xs, h => by
    obtain ⟨e1, h1, h2, h3⟩ := h x List.mem_cons_self
    exact lc_t h1 h2 h3 (lc_map fun y hy => h y (List.mem_cons_of_mem _ hy))
/-- a test for each item -/
theorem lc_filter {φ : Dat → Dat} {p : Dat → Bool} : ∀ {xs : List Dat}, (∀ x ∈ xs, ∃ e1, gd x env = some e1 ∧ ft e1 δ = some (p x, δ) ∧ fe e1 δ = some (φ x, δ)) → lcD gd ft fe env xs δ = some ((xs.filter p).map φ, δ)
  | [], _ => rfl
  | x :: xs, h => by
    obtain ⟨e1, h1, h2, h3⟩ := h x List.mem_cons_self
    have ih := lc_filter (p := p) fun y hy => h y (List.mem_cons_of_mem _ hy)
    cases hp : p x with
    | true =>
      rw [hp] at h2
      rw [List.filter_cons_of_pos hp]
      exact lc_t h1 h2 h3 ih
    | false =>
      rw [hp] at h2
      rw [List.filter_cons_of_neg (by simp [hp])]
      exact lc_f h1 h2 ih
theorem runG_r {N : List Str} {g : Sg} (h : g (startE N xs) δ = some (.rt x δ1)) : runG N g xs δ = some (x, δ1) := by unfold runG; rw [h]
theorem runG_n {N : List Str} {g : Sg} (h : g (startE N xs) δ = some (.nx e1 δ1)) : runG N g xs δ = some (.non, δ1) := by unfold runG; rw [h]
/-! operators -/
theorem dAdd_i {i j : Int} : dAdd (.int i) (.int j) = some (.int (i + j)) := rfl
theorem dAdd_s {s t : Str} (h : s.length + t.length < 1000000) : dAdd (.str s) (.str t) = some (.str (s ++ t)) := by
  show (dStrAdd (.str s) (.str t)).orElse _ = _
  show (if s.length + t.length < 1000000 then some (Dat.str (s ++ t)) else none).orElse _ = _
  rw [if_pos h]
  rfl
theorem dAdd_l (h : xs.length + ys.length < 1000000) : dAdd (.lst xs) (.lst ys) = some (.lst (xs ++ ys)) := by
  show (if xs.length + ys.length < 1000000 then some (Dat.lst (xs ++ ys)) else none) = _
  rw [if_pos h]
theorem dSub_i {i j : Int} : dSub (.int i) (.int j) = some (.int (i - j)) := rfl
theorem dMul_r {i j : Int} (h1 : -(2 ^ 64) < j) (h2 : j < 2 ^ 64) : dMul (.int i) (.int j) = some (.int (i * j)) := by
  show (if mulC i j = true then some (Dat.int (i * j)) else none) = _
  rw [if_pos (by unfold mulC; simp only [Bool.or_eq_true, Bool.and_eq_true, decide_eq_true_eq]; exact .inr ⟨h1, h2⟩)]
theorem dMod_i {i j : Int} (h : 0 < j) : dMod (.int i) (.int j) = some (.int (i % j)) := by
  show (if decide (0 < j) = true then some (Dat.int (i % j)) else none) = _
  rw [if_pos (decide_eq_true h)]
theorem dFdiv_i {i j : Int} (h : 0 < j) (h2 : j < 1073741824) : dFdiv (.int i) (.int j) = some (.int (i / j)) := by
  show (if (decide (0 < j) && decide (j < 1073741824)) = true then some (Dat.int (i / j)) else none) = _
  rw [if_pos (by simp [h, h2])]
theorem dLt_i {i j : Int} : dLt (.int i) (.int j) = some (.bl (decide (i < j))) := rfl
theorem dLe_i {i j : Int} : dLe (.int i) (.int j) = some (.bl (decide (i ≤ j))) := rfl
theorem dGt_i {i j : Int} : dGt (.int i) (.int j) = some (.bl (decide (j < i))) := rfl
theorem dGe_i {i j : Int} : dGe (.int i) (.int j) = some (.bl (decide (j ≤ i))) := rfl
theorem shaped_int (i : Int) : SeqAt.shaped (.int i) = true := rfl
theorem dEq_i {i j : Int} : dEq (.int i) (.int j) = some (.bl (decide (i = j))) := by
  show (if (SeqAt.shaped (.int i) && SeqAt.shaped (.int j)) = true then some (PyData.eqv (.int i) (.int j)) else none).map Dat.bl = _
  rw [if_pos (by rw [shaped_int, shaped_int]; rfl)]
  simp [PyData.eqv, Bool.beq_eq_decide_eq]
theorem dNe_i {i j : Int} : dNe (.int i) (.int j) = some (.bl (!decide (i = j))) := by
  show (if (SeqAt.shaped (.int i) && SeqAt.shaped (.int j)) = true then some (PyData.eqv (.int i) (.int j)) else none).map (fun k => Dat.bl (!k)) = _
  rw [if_pos (by rw [shaped_int, shaped_int]; rfl)]
  simp [PyData.eqv, Bool.beq_eq_decide_eq]
end
/-! texts by their signs -/
def S (w : List Nat) : Str := ⟨w.toArray⟩
theorem S_cps (w : List Nat) : (S w).cps.toList = w := rfl
theorem S_len (w : List Nat) : (S w).length = w.length := by simp [S, Str.length]
theorem S_inj {v w : List Nat} : S v = S w ↔ v = w := by
  constructor
  · intro h
    have := congrArg (fun s : Str => s.cps.toList) h
    exact this
  · rintro rfl; rfl
theorem S_app (v w : List Nat) : S v ++ S w = S (v ++ w) := TL.ext_tl (by rw [TL.tl_append]; rfl)
theorem S_rev (w : List Nat) : revS (S w) = S w.reverse := rfl
theorem joinL_nil : ∀ ws : List (List Nat), TL.joinL [] ws = ws.flatten
  | [] => rfl
  | [p] => by simp [TL.joinL]
  | p :: q :: r => by
    simp only [TL.joinL, List.nil_append, joinL_nil (q :: r), List.flatten_cons]
theorem S_join (ws : List (List Nat)) : Txt.join (S []) (ws.map S) = S ws.flatten := by
  refine TL.ext_tl ?_
  rw [TL.join_eq, TL.tl_join]
  have : (ws.map S).map TL.tl = ws := by
    rw [List.map_map]
    have : (TL.tl ∘ S) = id := rfl
    rw [this, List.map_id]
  rw [this]
  exact joinL_nil ws
theorem S_cut (w : List Nat) (lo hi : Option Int) : cutS (S w) lo hi = S ((w.drop (HT.sIx w.length 0 lo)).take (HT.sIx w.length w.length hi - HT.sIx w.length 0 lo)) := by
  unfold cutS
  rw [S_len]
  rfl
theorem cut_to (w : List Nat) (k : Nat) : cutS (S w) none (some (k : Int)) = S (w.take k) := by
  rw [S_cut, HT.sIx_none, HT.sIx_nat]
  simp [List.take_take]
  congr 1
  by_cases h : k ≤ w.length
  · rw [Nat.min_eq_left h]
  · rw [Nat.min_eq_right (by omega), List.take_of_length_le (by omega), List.take_of_length_le (by omega)]
theorem cut_from (w : List Nat) (k : Nat) : cutS (S w) (some (k : Int)) none = S (w.drop k) := by
  rw [S_cut, HT.sIx_none, HT.sIx_nat]
  congr 1
  by_cases h : k ≤ w.length
  · rw [Nat.min_eq_left h, List.take_of_length_le (by rw [List.length_drop]; exact Nat.le_refl _)]
  · rw [Nat.min_eq_right (show w.length ≤ k by omega), List.drop_of_length_le (show w.length ≤ k by omega)]
    simp
theorem cut_mid (w : List Nat) (k m : Nat) (h : k + m ≤ w.length) : cutS (S w) (some (k : Int)) (some ((k + m : Nat) : Int)) = S ((w.drop k).take m) := by
  rw [S_cut, HT.sIx_nat, HT.sIx_nat, Nat.min_eq_left (show k ≤ w.length by omega), Nat.min_eq_left h]
  congr 2
  omega
theorem S_ok {w : List Nat} (h : ∀ c ∈ w, c < 128) : SeqAt.shaped (.str (S w)) = true := by
  unfold SeqAt.shaped
  rw [Bool.and_eq_true]
  refine ⟨?_, by simp [PyData.depth]⟩
  show PyData.strOk (S w) = true
  unfold PyData.strOk S
  rw [Array.all_eq_true]
  intro i hi
  have : w[i] ∈ w := List.getElem_mem _
  have := h _ this
  simp
  omega
theorem eqD_S {v w : List Nat} (hv : ∀ c ∈ v, c < 128) (hw : ∀ c ∈ w, c < 128) : eqD (.str (S v)) (.str (S w)) = some (decide (v = w)) := by
  show (if (SeqAt.shaped (.str (S v)) && SeqAt.shaped (.str (S w))) = true then some (PyData.eqv (.str (S v)) (.str (S w))) else none) = _
  rw [if_pos (by rw [S_ok hv, S_ok hw]; rfl)]
  congr 1
  show (S v == S w) = decide (v = w)
  rw [Bool.beq_eq_decide_eq]
  simp [S_inj]
theorem dEq_S {v w : List Nat} (hv : ∀ c ∈ v, c < 128) (hw : ∀ c ∈ w, c < 128) : dEq (.str (S v)) (.str (S w)) = some (.bl (decide (v = w))) := by
  unfold dEq; rw [eqD_S hv hw]; rfl
theorem dNe_S {v w : List Nat} (hv : ∀ c ∈ v, c < 128) (hw : ∀ c ∈ w, c < 128) : dNe (.str (S v)) (.str (S w)) = some (.bl (!decide (v = w))) := by
  unfold dNe; rw [eqD_S hv hw]; rfl
theorem toS_map (ws : List (List Nat)) : toS (ws.map fun w => .str (S w)) = some (ws.map S) := by
  induction ws with
  | nil => rfl
  | cons w ws ih =>
    show (toS (ws.map fun w => .str (S w))).map _ = _
    rw [ih]
    rfl
theorem sum_le_flat (ws : List (List Nat)) : ((ws.map S).map (·.length)).sum = ws.flatten.length := by
  induction ws with
  | nil => rfl
  | cons w ws ih => simp only [List.map_cons, List.sum_cons, ih, S_len, List.flatten_cons, List.length_append]
theorem dJoin_S {ws : List (List Nat)} (h : ws.flatten.length < 1000000) : dJoin (.str (S [])) (.lst (ws.map fun w => .str (S w))) = some (.str (S ws.flatten)) := by
  show ((toS (ws.map fun w => Dat.str (S w))).bind fun zs => if (zs.map (·.length)).sum + zs.length * (S []).length < 1000000 then some (Dat.str (Txt.join (S []) zs)) else none) = _
  rw [toS_map]
  simp only [Option.bind_some]
  rw [sum_le_flat, S_len, S_join, List.length_nil, Nat.mul_zero, Nat.add_zero, if_pos h]
/-! pairs, lists of them -/
def pD (p : Int × Int) : Dat := .tup [.int p.1, .int p.2]
def prP (p : Int × Int) : PyData := .tuple [.int p.1, .int p.2]
theorem toPy_pr (p : Int × Int) : toPy (pD p) = some (prP p) := by simp [pD, prP, toPy, toPyA]
theorem toPyA_pr : ∀ l : List (Int × Int), toPyA (l.map pD) = some (l.map prP)
  | [] => by simp [toPyA]
  | p :: l => by simp [toPyA, toPy_pr, toPyA_pr l]
theorem shaped_pr (p : Int × Int) : SeqAt.shaped (prP p) = true := by
  unfold SeqAt.shaped prP
  rw [Bool.and_eq_true]
  exact ⟨by simp [PyData.canLay0, PyData.canLayAll0], by simp [PyData.depth, PyData.depthAll]⟩
theorem lay_prs : ∀ l : List (Int × Int), PyData.canLayAll0 (l.map prP) = true
  | [] => by simp [PyData.canLayAll0]
  | p :: l => by simp [PyData.canLayAll0, lay_prs l, prP, PyData.canLay0]
theorem depth_prs : ∀ l : List (Int × Int), PyData.depthAll (l.map prP) ≤ 1
  | [] => by simp [PyData.depthAll]
  | p :: l => by
    have := depth_prs l
    simp only [List.map_cons, PyData.depthAll, prP, PyData.depth]
    (try simp only [prP] at this)
    omega
theorem shaped_prs (l : List (Int × Int)) : SeqAt.shaped (.list (l.map prP)) = true := by
  unfold SeqAt.shaped
  rw [Bool.and_eq_true]
  refine ⟨by simp only [PyData.canLay0]; exact lay_prs l, decide_eq_true ?_⟩
  have := depth_prs l
  simp only [PyData.depth]
  omega
theorem eqv_pr (p q : Int × Int) : PyData.eqv (prP p) (prP q) = decide (p = q) := by
  obtain ⟨a, b⟩ := p
  obtain ⟨c, d⟩ := q
  simp only [prP, PyData.eqv, PyData.eqvAll, Bool.and_true, Bool.beq_eq_decide_eq, Prod.mk.injEq]
  by_cases h : a = c <;> by_cases h' : b = d <;> simp [h, h']
theorem eqv_prs : ∀ l m : List (Int × Int), PyData.eqvAll (l.map prP) (m.map prP) = decide (l = m)
  | [], [] => by simp [PyData.eqvAll]
  | [], _ :: _ => by simp [PyData.eqvAll]
  | _ :: _, [] => by simp [PyData.eqvAll]
  | p :: l, q :: m => by
    simp only [List.map_cons, PyData.eqvAll, eqv_pr, eqv_prs l m, List.cons.injEq]
    by_cases h : p = q <;> by_cases h' : l = m <;> simp [h, h']
theorem eqD_pr (p q : Int × Int) : eqD (pD p) (pD q) = some (decide (p = q)) := by
  unfold eqD
  rw [toPy_pr, toPy_pr]
  simp only [Option.bind_some, shaped_pr, Bool.and_self, if_true, eqv_pr]
theorem eqD_prs (l m : List (Int × Int)) : eqD (.lst (l.map pD)) (.lst (m.map pD)) = some (decide (l = m)) := by
  unfold eqD
  simp only [toPy, toPyA_pr, Option.map_some, Option.bind_some, shaped_prs, Bool.and_self, if_true, PyData.eqv, eqv_prs]
theorem inD_pr (p : Int × Int) (l : List (Int × Int)) : inD (pD p) (l.map pD) = some (decide (p ∈ l)) := by
  unfold inD
  rw [toPy_pr, toPyA_pr]
  simp only [Option.bind_some, shaped_pr, shaped_prs, Bool.and_self, if_true, List.any_map]
  congr 1
  rw [Bool.eq_iff_iff, List.any_eq_true, decide_eq_true_iff]
  constructor
  · rintro ⟨x, hx, e⟩
    have : PyData.eqv (prP x) (prP p) = true := e
    rw [eqv_pr, decide_eq_true_iff] at this
    rw [← this]
    exact hx
  · intro h
    refine ⟨p, h, ?_⟩
    show PyData.eqv (prP p) (prP p) = true
    rw [eqv_pr]
    simp
theorem atI_nat' {α : Type} {xs : List α} {j : Nat} {v : α} {i : Int} (hi : i = (j : Int)) (h : xs[j]? = some v) : L2.atI xs i = some v := by
  rw [hi]
  exact L2.atI_nat h
theorem atI_neg1 {α : Type} {xs : List α} {v : α} (h : xs.getLast? = some v) : L2.atI xs (-1) = some v := by
  obtain ⟨ys, rfl⟩ := List.getLast?_eq_some_iff.mp h
  exact L2.atI_last ys v
theorem ixN_lt {n j : Nat} {i : Int} (hi : i = (j : Int)) (h : j < n) : ixN n i = some j := by
  subst hi
  unfold ixN
  rw [if_pos (Int.natCast_nonneg j), if_pos (by omega), Int.toNat_natCast]
end Dl

namespace Dl
open PySem PySem.Spec L2
open PyProof.Rows (envOfC)
/-! ### 13. min, max; two names at once -/
section
variable {X : Cx} {e a b c elt iter tg : Expr} {es : List Expr} {t ta tb te : TE} {f g : E} {fr : EA} {tr : TA} {pos p : Pos} {K : PySem.W.Frag} {mg : Str → Option Value}
def toI : List Dat → Option (List Int)
  | [] => some []
  | .int k :: xs => (toI xs).map fun ks => k :: ks
  | _ => none
theorem RpA.toI {d : Option Addr} {N : Addr → Prop} {H : Hp} : ∀ {xs : List Dat} {vs : List V} {ks : List Int}, RpA K mg d N H vs xs → Dl.toI xs = some ks → vs = ks.map V.int
  | [], _, _, h, e => by cases h; cases e; rfl
  | x :: xs, _, ks, h, e => by
    cases h with
    | cons h1 h2 =>
      cases x <;> first | (cases e; done) | skip
      rename_i kb
      have e : ((Dl.toI xs).map fun ks => kb :: ks) = some ks := e
      cases e1 : Dl.toI xs with
      | none => rw [e1] at e; cases e
      | some us =>
        rw [e1] at e
        cases e
        cases h1
        rw [RpA.toI h2 e1]
        rfl
def minL : Int → List Int → Int
  | m, [] => m
  | m, k :: ks => minL (if k < m then k else m) ks
def maxL : Int → List Int → Int
  | m, [] => m
  | m, k :: ks => maxL (if m < k then k else m) ks
theorem minL_le : ∀ (ks : List Int) (m : Int), minL m ks ≤ m ∧ ∀ k ∈ ks, minL m ks ≤ k
  | [], m => ⟨Int.le_refl _, fun k h => by cases h⟩
  | k :: ks, m => by
    have ih := minL_le ks (if k < m then k else m)
    unfold minL
    refine ⟨Int.le_trans ih.1 (by split <;> omega), fun j hj => ?_⟩
    rcases List.mem_cons.mp hj with rfl | hj
    · exact Int.le_trans ih.1 (by split <;> omega)
    · exact ih.2 j hj
theorem minL_mem : ∀ (ks : List Int) (m : Int), minL m ks = m ∨ minL m ks ∈ ks
  | [], m => .inl rfl
  | k :: ks, m => by
    unfold minL
    rcases minL_mem ks (if k < m then k else m) with h | h
    · rw [h]
      split
      · exact .inr List.mem_cons_self
      · exact .inl rfl
    · exact .inr (List.mem_cons_of_mem _ h)
theorem maxL_le : ∀ (ks : List Int) (m : Int), m ≤ maxL m ks ∧ ∀ k ∈ ks, k ≤ maxL m ks
  | [], m => ⟨Int.le_refl _, fun k h => by cases h⟩
  | k :: ks, m => by
    have ih := maxL_le ks (if m < k then k else m)
    unfold maxL
    refine ⟨Int.le_trans (by split <;> omega) ih.1, fun j hj => ?_⟩
    rcases List.mem_cons.mp hj with rfl | hj
    · exact Int.le_trans (by split <;> omega) ih.1
    · exact ih.2 j hj
theorem maxL_mem : ∀ (ks : List Int) (m : Int), maxL m ks = m ∨ maxL m ks ∈ ks
  | [], m => .inl rfl
  | k :: ks, m => by
    unfold maxL
    rcases maxL_mem ks (if m < k then k else m) with h | h
    · rw [h]
      split
      · exact .inr List.mem_cons_self
      · exact .inl rfl
    · exact .inr (List.mem_cons_of_mem _ h)
def dMin : List Dat → Option Dat
  | [.lst xs] => (toI xs).bind fun ks => match ks with
    | [] => none
    | k :: ks => some (.int (minL k ks))
  | _ => none
def dMax : List Dat → Option Dat
  | [.lst xs] => (toI xs).bind fun ks => match ks with
    | [] => none
    | k :: ks => some (.int (maxL k ks))
  | _ => none
theorem ref_min : RefC K mg (rMin K) dMin := by
  intro d N H vs xs z Q hd hN rv e kq
  rcases xs with _ | ⟨x, _ | ⟨y, ys⟩⟩
  · cases e
  · obtain ⟨v, rfl, r⟩ := bs1 rv
    cases x <;> first | (cases e; done) | skip
    rename_i ys
    obtain ⟨a, ws, rfl, e2, _, r⟩ := r
    have e : ((toI ys).bind fun ks => match ks with | [] => none | k :: ks => some (Dat.int (minL k ks))) = some z := e
    cases e1 : toI ys with
    | none => rw [e1] at e; cases e
    | some ks =>
      rw [e1] at e
      cases ks with
      | nil => cases e
      | cons k ks =>
        cases e
        rw [r.toI e1] at e2
        refine ⟨a, k :: ks, rfl, .of e2, by simp, fun m hm hle => ?_⟩
        have h1 := minL_le ks k
        have h2 := minL_mem ks k
        have hmin : minL k ks = m := by
          refine Int.le_antisymm ?_ ?_
          · rcases List.mem_cons.mp hm with rfl | hm
            · exact h1.1
            · exact h1.2 m hm
          · rcases h2 with h2 | h2
            · rw [h2]; exact hle k List.mem_cons_self
            · exact hle _ (List.mem_cons_of_mem _ h2)
        rw [← hmin]
        exact kq _ H same_refl (.int _)
  · cases x <;> cases e
theorem ref_max : RefC K mg (rMax K) dMax := by
  intro d N H vs xs z Q hd hN rv e kq
  rcases xs with _ | ⟨x, _ | ⟨y, ys⟩⟩
  · cases e
  · obtain ⟨v, rfl, r⟩ := bs1 rv
    cases x <;> first | (cases e; done) | skip
    rename_i ys
    obtain ⟨a, ws, rfl, e2, _, r⟩ := r
    have e : ((toI ys).bind fun ks => match ks with | [] => none | k :: ks => some (Dat.int (maxL k ks))) = some z := e
    cases e1 : toI ys with
    | none => rw [e1] at e; cases e
    | some ks =>
      rw [e1] at e
      cases ks with
      | nil => cases e
      | cons k ks =>
        cases e
        rw [r.toI e1] at e2
        refine ⟨a, k :: ks, rfl, .of e2, by simp, fun m hm hle => ?_⟩
        have h1 := maxL_le ks k
        have h2 := maxL_mem ks k
        have hmax : maxL k ks = m := by
          refine Int.le_antisymm ?_ ?_
          · rcases h2 with h2 | h2
            · rw [h2]; exact hle k List.mem_cons_self
            · exact hle _ (List.mem_cons_of_mem _ h2)
          · rcases List.mem_cons.mp hm with rfl | hm
            · exact h1.1
            · exact h1.2 m hm
        rw [← hmax]
        exact kq _ H same_refl (.int _)
  · cases x <;> cases e
abbrev rMax2V : List V → Hp → VK → Prop := fun xs H Q => ∃ i j, xs = [V.int i, .int j] ∧ Q (.int (if j > i then j else i)) H
abbrev rMin2V : List V → Hp → VK → Prop := fun xs H Q => ∃ i j, xs = [V.int i, .int j] ∧ Q (.int (if j < i then j else i)) H
def dMax2 : List Dat → Option Dat
  | [.int i, .int j] => some (.int (if j > i then j else i))
  | _ => none
def dMin2 : List Dat → Option Dat
  | [.int i, .int j] => some (.int (if j < i then j else i))
  | _ => none
theorem bs2 {d : Option Addr} {N : Addr → Prop} {H : Hp} {x y : Dat} : ∀ {vs : List V}, RpBs K mg d N H vs [x, y] → ∃ v w, vs = [v, w] ∧ RpB K mg d N H v x ∧ RpB K mg d N H w y
  | [v, w], ⟨r, r2, _⟩ => ⟨v, w, rfl, r, r2⟩
  | [], r => r.elim
  | [_], ⟨_, r⟩ => r.elim
  | _ :: _ :: _ :: _, ⟨_, _, r⟩ => r.elim
theorem ref_max2 : RefC K mg rMax2V dMax2 := by
  intro d N H vs xs z Q hd hN rv e kq
  rcases xs with _ | ⟨x, _ | ⟨y, _ | ⟨y2, ys⟩⟩⟩
  · cases e
  · cases x <;> cases e
  · obtain ⟨v, w, rfl, r1, r2⟩ := bs2 rv
    cases x <;> cases y <;> first | (cases e; done) | skip
    cases e
    cases r1; cases r2
    exact ⟨_, _, rfl, kq _ H same_refl (.int _)⟩
  · cases x <;> cases y <;> cases e
theorem ref_min2 : RefC K mg rMin2V dMin2 := by
  intro d N H vs xs z Q hd hN rv e kq
  rcases xs with _ | ⟨x, _ | ⟨y, _ | ⟨y2, ys⟩⟩⟩
  · cases e
  · cases x <;> cases e
  · obtain ⟨v, w, rfl, r1, r2⟩ := bs2 rv
    cases x <;> cases y <;> first | (cases e; done) | skip
    cases e
    cases r1; cases r2
    exact ⟨_, _, rfl, kq _ H same_refl (.int _)⟩
  · cases x <;> cases y <;> cases e
/-- a, b = x, y -/
def gPar (i j : Nat) (fr : EA) : Sg := fun env δ => (fr env δ).bind fun r => match r.1 with
  | [x, y] => some (.nx ((env.set i (.val x)).set j (.val y)) r.2)
  | _ => none
theorem rs_par (i j : Nat) (ha : RA K mg tr fr) : RSt K mg (tPar i j tr) (gPar i j fr) := by
  intro q σ H env δ o D k ef ko
  unfold gPar at ef
  cases e1 : fr env δ with
  | none => rw [e1] at ef; cases ef
  | some r1 =>
    obtain ⟨xs, δ1⟩ := r1
    rw [e1] at ef
    simp only [Option.bind_some] at ef
    split at ef
    · rename_i x y
      cases ef
      refine ha q σ H env δ _ _ _ k e1 fun vs H1 k1 o1 r => ?_
      cases r with
      | cons r1 r2 =>
        cases r2 with
        | cons r2 r3 =>
          cases r3
          rename_i v w
          refine ⟨v, w, rfl, ko _ H1 ?_⟩
          have o2 := (o1.pushGh (vs := [w]) (xs := [y]) (.cons r2 .nil)).set i (x := x) (v := v) (by exact r1)
          obtain ⟨o3, r4⟩ := o2.popGh rfl
          cases r4 with
          | cons r4 _ => exact o3.set j r4
    · cases ef
theorem d_par (i j : Nat) {st : Stmt} (ha : DA X [a, b] tr fr) (h : ∀ {tr : TA}, PA X [a, b] tr → PS X st (tPar i j tr)) : DSt X st (tPar i j tr) (gPar i j fr) := ⟨h ha.p, rs_par i j ha.r⟩
end
end Dl

/-! Objects: a field read, a field stored, a method called, an object made. -/
namespace Dl
open PySem PySem.Spec L2
open PyProof.Rows (envOfC)
section
variable {K : PySem.W.Frag} {mg : Str → Option Value}
theorem RpA.look {d : Option Addr} {N : Addr → Prop} {H : Hp} {f : Str} {x : Dat} : ∀ {ks : List Str} {vs : List V} {xs : List Dat}, RpA K mg d N H vs xs → (ks.zip xs).lookup f = some x → ∃ v, (ks.zip vs).lookup f = some v ∧ Rp K mg d N H v x
  | [], _, _, _, h => by simp at h
  | k :: ks, _, _, .nil, h => by simp at h
  | k :: ks, _, _, .cons r1 r2, h => by
    rw [List.zip_cons_cons, List.lookup_cons] at h
    rw [List.zip_cons_cons, List.lookup_cons]
    split at h
    · cases h
      exact ⟨_, rfl, r1⟩
    · exact RpA.look r2 h
theorem zip_none {α : Type} {f : Str} : ∀ {ks : List Str} {vs : List α}, ks.contains f = false → (ks.zip vs).lookup f = none
  | [], _, _ => by simp
  | k :: ks, [], _ => by simp
  | k :: ks, v :: vs, h => by
    rw [List.contains_cons] at h
    rw [List.zip_cons_cons, List.lookup_cons]
    have h1 : (f == k) = false := by cases e : (f == k) <;> simp_all
    have h2 : ks.contains f = false := by cases e : ks.contains f <;> simp_all
    rw [h1]
    exact zip_none h2
theorem putF_zip {f : Str} {v : V} : ∀ {ks : List Str} {vs : List V}, ks.contains f = false → ks.length = vs.length → putF f v (ks.zip vs) = (ks ++ [f]).zip (vs ++ [v])
  | [], [], _, _ => rfl
  | [], _ :: _, _, e => by cases e
  | _ :: _, [], _, e => by cases e
  | k :: ks, u :: vs, h, e => by
    rw [List.contains_cons] at h
    have h1 : (f == k) = false := by cases e : (f == k) <;> simp_all
    have h2 : ks.contains f = false := by cases e : ks.contains f <;> simp_all
    have h3 : ¬ k = f := fun z => by subst z; simp at h1
    have ih := putF_zip (v := v) h2 (show ks.length = vs.length by simpa using e)
    show (if k = f then _ else (k, u) :: putF f v (ks.zip vs)) = _
    rw [if_neg h3, ih]
    rfl
end
section
variable {X : Cx} {e o a : Expr} {es : List Expr} {t te : TE} {tr : TA} {f g : E} {fr : EA} {pos p apos : Pos} {c fld m : Str} {C : Addr}
/-- e.fld -/
def eFld (c fld : Str) (g : E) : E := fun env δ => (g env δ).bind fun r => match r.1 with
  | .obj c' ks xs => if c' = c then ((ks.zip xs).lookup fld).map fun x => (x, r.2) else none
  | _ => none
/-- a class's facts -/
structure ClO (K : PySem.W.Frag) (mg : Str → Option Value) (c : Str) (C : Addr) : Prop where
  m : mg c = some (.ref C)
  c : Cls K C
theorem d_fld (hC : ClO X.K X.mg c C) (na : NoAttr X.K C fld) (he : DE X e te g) (hb : attributeBase e fld X.env (eval e X.env) = eval e X.env := by rfl) : DS X (.Attribute e fld pos) (tFld X.K te fld) (eFld c fld g) := by
  refine ⟨pe_fld he.p hb, fun q σ H env δ x δ' Q k ef kq => ?_⟩
  unfold eFld at ef
  cases e1 : g env δ with
  | none => rw [e1] at ef; cases ef
  | some r1 =>
    obtain ⟨y, δ1⟩ := r1
    rw [e1] at ef
    cases y with
    | obj c' ks xs =>
      simp only [Option.bind_some] at ef
      split at ef
      · rename_i hc
        subst hc
        cases e2 : (ks.zip xs).lookup fld with
        | none => rw [e2] at ef; cases ef
        | some z =>
          rw [e2] at ef
          cases ef
          refine he.r q σ H env δ _ _ _ k e1 fun v H1 k1 o1 r1 => ?_
          obtain ⟨b, vs, C', dx, rfl, hm, hb', hl, hd, r2⟩ := r1
          obtain ⟨w, l, r3⟩ := r2.look e2
          rw [hC.m] at hm
          cases hm
          exact ⟨b, C, dx, _, w, rfl, hb', hC.c, na, l, kq w H1 k1 o1 r3⟩
      · cases ef
    | _ => cases ef
/-- o.m(..): the object is the first argument -/
def eMeth (c m : Str) (n : Nat) (G : GF) (f : E) (fr : EA) : E := fun env δ => (f env δ).bind fun r => match r.1 with
  | .obj c' ks xs => if c' = c ∧ ks.contains m = false then (fr env r.2).bind fun u => if u.1.length + 1 = n then G (.obj c' ks xs :: u.1) u.2 else none else none
  | _ => none
/-- the class's method m keeps G -/
def MtG (P : Program) (w : World) (K : PySem.W.Frag) (mg : Str → Option Value) (base : Heap) (k : Nat) (C : Addr) (m : Str) (ps : List Str) (G : GF) : Prop :=
  ∃ (f : Addr) (fd : FuncData), Meth K C m f ∧ Binds K fd ps [] ∧ FnG P w K mg base k f fd ps G
theorem re_meth {n : Nat} {G : GF} {E0' : XK} (hC : ClO X.K X.mg c C) (he : DS X o te f) (ha : DA X es tr fr) : RS X.K X.mg (tMeth C m (spG X.K X.mg n G) [] E0' te tr) (eMeth c m n G f fr) := by
  intro q σ H env δ z δ' Q k ef kq
  unfold eMeth at ef
  cases e1 : f env δ with
  | none => rw [e1] at ef; cases ef
  | some r1 =>
    obtain ⟨y, δ1⟩ := r1
    rw [e1] at ef
    cases y with
    | obj c' ks xs =>
      simp only [Option.bind_some] at ef
      split at ef
      · rename_i hc
        obtain ⟨hc, hk⟩ := hc
        subst hc
        cases e2 : fr env δ1 with
        | none => rw [e2] at ef; cases ef
        | some r2 =>
          obtain ⟨ys, δ2⟩ := r2
          rw [e2] at ef
          simp only [Option.bind_some] at ef
          split at ef
          · rename_i hn
            refine he.r q σ H env δ _ _ _ k e1 fun v H1 k1 o1 r1 => ?_
            cases r1 with
            | obj hm hb hl hN r =>
              rename_i b C' dx vs
              rw [hC.m] at hm
              cases hm
              refine ⟨b, dx, _, rfl, hb, zip_none hk, ha.r q σ H1 env δ1 ys δ2 _ o1 e2 fun us H2 k2 o2 r2 => ?_⟩
              rw [List.append_nil]
              have kw := k2.weak (N' := NN q σ env) o1.dn
              exact ⟨q.d, NN q σ env, .obj c' ks xs :: ys, δ2, z, δ', by simpa using hn, o2.dn, fun b => o2.nn, o2.dc, .cons (Rp.keep kw (fun b z => .inl z) _ _ (.obj hC.m hb hl hN r)) r2, ef, fun v H3 k3 d3 r3 => kq v H3 ((k1.trans k2).trans k3) (o2.step k3 d3) r3⟩
          · cases ef
      · cases ef
    | _ => cases ef
theorem d_meth {kk : Nat} {ps : List Str} {G : GF} {pl : Sem Bool} (hC : ClO X.K X.mg c C) (h : MtG X.prog X.w X.K X.mg X.base kk C m ps G) (hr : Room kk X.A) (he : DS X o te f) (ha : DA X (e :: es) tr fr)
    (hst : starEach (e :: es) X.env = (false, eval e X.env) :: starEach es X.env := by rfl) (hpl : (backTo pos (starEach es X.env)).any (·.1) = false := by rfl)
    (ht : eval (.Call (.Attribute o m apos) (e :: es) [] pos) X.env = (do
      let ov ← eval o X.env
      standAt apos.atName
      let (f, first) ← holding [ov] (getMethod ov m pl)
      callWith pos f first (backTo pos (starEach (e :: es) X.env)) (backToKw pos (keywordEach [] X.env))) := by rfl) :
    DS X (.Call (.Attribute o m apos) (e :: es) [] pos) (tMeth C m (spG X.K X.mg ps.length G) [] E0 te tr) (eMeth c m ps.length G f fr) := by
  obtain ⟨ff, fd, h1, h2, h3⟩ := h
  exact ⟨pe_meth he.p hC.c h1 h3 hr h2 .nil pass0 ha.p hst hpl ht, re_meth hC he ha⟩
theorem d_meth0 {kk : Nat} {ps : List Str} {G : GF} {pl : Sem Bool} (hC : ClO X.K X.mg c C) (h : MtG X.prog X.w X.K X.mg X.base kk C m ps G) (hr : Room kk X.A) (he : DS X o te f)
    (ht : eval (.Call (.Attribute o m apos) [] [] pos) X.env = (do
      let ov ← eval o X.env
      standAt apos.atName
      let (f, first) ← holding [ov] (getMethod ov m pl)
      callWith pos f first (backTo pos (starEach [] X.env)) (backToKw pos (keywordEach [] X.env))) := by rfl) :
    DS X (.Call (.Attribute o m apos) [] [] pos) (tMeth C m (spG X.K X.mg ps.length G) [] E0 te tNil) (eMeth c m ps.length G f aNil) := by
  obtain ⟨ff, fd, h1, h2, h3⟩ := h
  exact ⟨pe_meth0 he.p hC.c h1 h3 hr h2 .nil pass0 ht, re_meth hC he d_anil⟩
/-- self.fld = e, a field that is new -/
def gFld (i : Nat) (c fld : Str) (f : E) : Sg := fun env δ => (f env δ).bind fun r => match env[i]? with
  | some (.own (.obj c' ks, l)) => if c' = c ∧ ks.contains fld = false ∧ ks.length < 1000 then some (.nx (env.set i (.own (.obj c (ks ++ [fld]), l ++ [r.1]))) r.2) else none
  | _ => none
theorem d_sfld {pos' : Pos} (i : Nat) (hC : ClO X.K X.mg c C) (na : NoAttr X.K C fld) (ho : PE X o (tVar i)) (he : DS X e te f) (hs : swapsWith e (some (.Attribute o fld pos')) pos.line X.env = pure false := by rfl) :
    DSt X (.Assign [.Attribute o fld pos'] e pos) (sFld X.K (tVar i) te fld) (gFld i c fld f) := by
  refine ⟨ps_fld ho he.p hs, fun q σ H env δ out D k ef ko => ?_⟩
  unfold gFld at ef
  cases e1 : f env δ with
  | none => rw [e1] at ef; cases ef
  | some r1 =>
    obtain ⟨y, δ1⟩ := r1
    rw [e1] at ef
    simp only [Option.bind_some] at ef
    split at ef
    · rename_i c' ks l hl
      split at ef
      · rename_i hc
        obtain ⟨hc, hk, hz⟩ := hc
        subst hc
        cases ef
        refine he.r q σ H env δ _ _ _ k e1 fun v H1 k1 o1 r1 => ?_
        obtain ⟨a, ⟨vs, ob⟩, s1, g1, g3, co, gr⟩ := o1.ow i _ hl
        have co : Co X.mg (.obj c' ks) vs ob := co
        have g3 : H1 a = some ob := g3
        have gr : RpA X.K X.mg q.d (NN q σ env) H1 vs l := gr
        cases co with
        | obj hm hlen =>
          rw [hC.m] at hm
          cases hm
          refine ⟨.ref a, s1, a, C, _, _, rfl, g3, hC.c, na, Nat.lt_of_le_of_lt (by rw [List.length_zip]; exact Nat.min_le_left _ _) hz, ?_⟩
          rw [putF_zip hk hlen]
          exact ko σ _ (o1.conUpd (vs' := (vs ++ [v], .ins C _ ((ks ++ [fld]).zip (vs ++ [v])))) hl s1 ⟨.obj hC.m (by simp [hlen]), gr.append (.cons r1 .nil)⟩ fun _ => rfl)
      · cases ef
    · cases ef
end
/-! ### an object made -/
def startI (N : List Str) (c : Str) (xs : List Dat) : Ev := .own (.obj c [], []) :: xs.map Slot.val ++ List.replicate (N.length - (xs.length + 1)) .un
def runI (N : List Str) (c : Str) (g : Sg) : GF := fun xs δ => match g (startI N c xs) δ with
  | some (.nx env δ') => match env[0]? with
    | some (Slot.own (.obj c' ks, l)) => some (.obj c' ks l, δ')
    | _ => none
  | _ => none
def spI (K : PySem.W.Frag) (mg : Str → Option Value) (c : Str) (n : Nat) (G : GF) : Sp := fun us H Q _ => ∃ (d : Option Addr) (N : Addr → Prop) (H1 : Hp) (x dx C : Addr) (vs : List V) (xs : List Dat) (δ : List Int) (y : Dat) (δ' : List Int),
  us = .ref x :: vs ∧ xs.length = n ∧ (∀ a, d = some a → N a) ∧ (∀ b, N b → H1 b ≠ none) ∧ DiceAt d H1 δ ∧ RpA K mg d N H1 vs xs ∧ H1 x = none ∧ H1 dx = none ∧ dx ≠ x ∧ mg c = some (.ref C) ∧ H = upd (upd H1 dx (.own x)) x (.ins C dx []) ∧ G xs δ = some (y, δ') ∧
  ∀ H', Keep (isD d) H1 H' → DiceAt d H' δ' → Rp K mg d N H' (.ref x) y → Q .non H'
abbrev FnI (P : Program) (w : World) (K : PySem.W.Frag) (mg : Str → Option Value) (base : Heap) (k : Nat) (f : Addr) (fd : FuncData) (ps : List Str) (c : Str) (G : GF) : Prop := FnOk P w K mg base CX0 k f fd ps (spI K mg c (ps.length - 1) G)
theorem fn_i {P : Program} {w : World} {K : PySem.W.Frag} {mg : Str → Option Value} {base : Heap} {x qual : Str} {st : Stmt} {f : Addr} {fd : FuncData} {N ps : List Str} {k : Nat} {c : Str} {g : Sg} (F : Fun K x qual st f fd) (S : FnScope N ps (defScope st)) (hp : 1 ≤ ps.length)
    (hb : ∀ (cdv : Value) (A : Around) (outer : List Env) (s : Shared) (H : Hp) (E : XK), Room k (A.deeper (envOfC qual (defScope st) s.heap.objs.size f cdv)) →
      ∃ t, DSs (cxOf CX0 P w K mg base N qual (defScope st) f cdv A outer s H E).nox (defBody st) t g) : FnI P w K mg base (k + 1) f fd ps c (runI N c g) := by
  refine F.ok S (fun vs H Q E h => ?_) (fun cdv A outer s H us Q E hr h => ?_)
  · obtain ⟨d, M, H1, x, dx, C, vs, xs, δ, y, δ', rfl, hl, _, _, _, r, _⟩ := h
    simp [r.length, hl]
    omega
  · obtain ⟨d, M, H1, x, dx, C, vs, xs, δ, y, δ', rfl, hl, hd, hM, hdc, r, hx, hdx, hne, hC, rfl, hG, hQ⟩ := h
    obtain ⟨t, T⟩ := hb cdv A outer s _ E hr
    refine ⟨t, T.p, ?_⟩
    have hpl : ps.length ≤ N.length := by have := congrArg List.length S.pre; rw [List.length_take] at this; omega
    have st0 : L2.start N (V.ref x :: vs) = some (.ref x) :: (vs.map some ++ List.replicate (N.length - (vs.length + 1)) none) := by unfold L2.start; rfl
    have se0 : startI N c xs = .own (.obj c [], []) :: (xs.map Slot.val ++ List.replicate (N.length - (xs.length + 1)) .un) := rfl
    have tl : ∀ (i : Nat) (z : Slot), (startI N c xs)[i + 1]? = some z → (∃ w, z = .val w ∧ xs[i]? = some w) ∨ z = .un := fun i z h => by
      rw [se0, List.getElem?_cons_succ] at h
      by_cases hi : i < xs.length
      · rw [List.getElem?_append_left (by simpa using hi), List.getElem?_map] at h
        cases q : xs[i]? with
        | none => rw [q] at h; cases h
        | some w => rw [q] at h; cases h; exact .inl ⟨w, rfl, rfl⟩
      · rw [List.getElem?_append_right (by simpa using hi)] at h
        exact .inr (List.eq_of_mem_replicate (List.mem_of_getElem? h))
    have own0 : ∀ (i : Nat) (l : Lc), (startI N c xs)[i]? = some (.own l) → i = 0 ∧ l = (.obj c [], []) := fun i l h => by
      cases i with
      | zero => cases h; exact ⟨rfl, rfl⟩
      | succ i => rcases tl i _ h with ⟨w, e, _⟩ | e <;> cases e
    have s1 := same_fresh (o := .own x) hdx
    have hx' : (upd H1 dx (.own x)) x = none := by rw [upd_ne (fun z => hne z.symm)]; exact hx
    have s2 := same_fresh (o := .ins C dx []) hx'
    have sm : Same H1 (upd (upd H1 dx (.own x)) x (.ins C dx [])) := fun b o h => s2 b o (s1 b o h)
    generalize hH : upd (upd H1 dx (.own x)) x (.ins C dx []) = H at sm hQ ⊢
    have nn : ∀ b, NN ⟨d, M, H1, [], [], [], (· = x)⟩ (L2.start N (V.ref x :: vs)) (startI N c xs) b → M b ∨ b = x := fun b z => by
      rcases z with z | ⟨l, z⟩ | ⟨i, l, z, z2⟩
      · exact .inl z
      · cases z
      · obtain ⟨rfl, rfl⟩ := own0 i l z
        rw [st0] at z2
        cases z2
        exact .inr rfl
    have hN : ∀ b, NN ⟨d, M, H1, [], [], [], (· = x)⟩ (L2.start N (V.ref x :: vs)) (startI N c xs) b → M b ∨ H1 b = none := fun b z => by
      rcases nn b z with z | rfl
      · exact .inl z
      · exact .inr hx
    have k0 : Ok K mg ⟨d, M, H1, [], [], [], (· = x)⟩ (L2.start N (V.ref x :: vs)) H (startI N c xs) δ := by
      refine ⟨.of_same sm, fun a e => sm a _ (hdc a e), hd, hM, ?_, fun l a _ _ e => ?_, fun i z e => ?_, fun i l e => ?_, fun i j l l' a e1 e2 _ _ => ?_, .nil, fun a l e => ?_⟩
      · rw [st0, se0]
        simp [r.length]
      · rw [st0] at e
        cases e
        rfl
      · cases i with
        | zero => cases e
        | succ i =>
          rcases tl i _ e with ⟨w, e1, e2⟩ | e1
          · cases e1
            obtain ⟨v, e3, r1⟩ := r.get e2
            refine ⟨v, ?_, Rp.keep (.of_same sm) hN _ _ r1⟩
            rw [st0, List.getElem?_cons_succ, List.getElem?_append_left (by rw [List.length_map]; exact (List.getElem?_eq_some_iff.mp e3).1), List.getElem?_map, e3]
            rfl
          · cases e1
      · obtain ⟨rfl, rfl⟩ := own0 i l e
        refine ⟨x, ([], .ins C dx []), by rw [st0]; rfl, hx, by rw [← hH]; exact upd_same, .obj (ks := []) (vs := []) hC rfl, .nil⟩
      · rw [(own0 i l e1).1, (own0 j l' e2).1]
      · cases e
    unfold runI at hG
    cases e1 : g (startI N c xs) δ with
    | none => rw [e1] at hG; cases hG
    | some o =>
      rw [e1] at hG
      refine T.r ⟨d, M, H1, [], [], [], (· = x)⟩ (L2.start N (V.ref x :: vs)) H (startI N c xs) δ o _ k0 e1 ?_
      cases o with
      | rt x δ1 => cases hG
      | bk _ _ => cases hG
      | ct _ _ => cases hG
      | nx env1 δ1 =>
        simp only at hG
        split at hG
        · rename_i c' ks l hl0
          cases hG
          intro σ' H' k1
          obtain ⟨b, ⟨ws, ob⟩, e1, e2, e3, co, gr⟩ := k1.ow 0 _ hl0
          have hb : b = x := k1.sf _ b hl0 rfl e1
          subst hb
          have co : Co mg (.obj c' ks) ws ob := co
          have e3 : H' b = some ob := e3
          have gr := RpA.keep (N' := M) .refl (fun b z => .inl (.inl z)) _ _ gr
          cases co with
          | obj hm hlen => exact hQ H' k1.kp k1.dc (.obj hm e3 hlen (fun z => hM _ z hx) gr)
        · cases hG
end Dl

/-! An object made; dicts whose keys are tuples. -/
namespace Dl
open PySem PySem.Spec L2
open PyProof.Rows (envOfC)
section
variable {X : Cx} {e o a b i : Expr} {es : List Expr} {t te td ty : TE} {tr : TA} {f g : E} {fr : EA} {pos p apos : Pos} {c nm : Str} {K : PySem.W.Frag} {mg : Str → Option Value}
/-- the name makes an object by G -/
def OkI (P : Program) (w : World) (K : PySem.W.Frag) (mg : Str → Option Value) (base : Heap) (k : Nat) (nm : Str) (ps : List Str) (G : GF) : Prop :=
  ∃ (C f : Addr) (fd : FuncData), mg nm = some (.ref C) ∧ Mk K C f ∧ Binds K fd ps [] ∧ FnI P w K mg base k f fd ps nm G
theorem re_make {n : Nat} {G : GF} {C : Addr} {E0' : XK} (hm : mg c = some (.ref C)) (ha : RA K mg tr fr) : RS K mg (tMake C (spI K mg c n G) [] E0' tr) (eCall G n fr) := by
  intro q σ H env δ z δ' Q k ef kq
  unfold eCall at ef
  cases e1 : fr env δ with
  | none => rw [e1] at ef; cases ef
  | some r1 =>
    obtain ⟨ys, δ1⟩ := r1
    rw [e1] at ef
    simp only [Option.bind_some] at ef
    split at ef
    · rename_i hl
      refine ha q σ H env δ ys δ1 _ k e1 fun vs H1 k1 o1 r1 x dx hx hdx hne => ?_
      rw [List.append_nil]
      exact ⟨q.d, NN q σ env, H1, x, dx, C, vs, ys, δ1, z, δ', rfl, hl, o1.dn, fun b => o1.nn, o1.dc, r1, hx, hdx, hne, hm, rfl, ef, fun H2 k2 d2 r2 => ⟨rfl, kq _ H2 (k1.trans k2) (o1.step k2 d2) r2⟩⟩
    · cases ef
theorem d_make {kk : Nat} {ps : List Str} {G : GF} (h : OkI X.prog X.w X.K X.mg X.base kk nm ps G) (hr : Room (kk + 1) X.A) (hg : Gl X nm)
    (ha : DA X (e :: es) tr fr) (hdb : (nm == ("__debug__" : Str)) = false := by decide) (he : starEach (e :: es) X.env = (false, eval e X.env) :: starEach es X.env := by rfl) (hpl : (backTo pos (starEach es X.env)).any (·.1) = false := by rfl) :
    ∃ t, DS X (.Call (.Name nm p) (e :: es) [] pos) t (eCall G (ps.length - 1) fr) := by
  obtain ⟨C, ff, fd, h1, h2, h3, h4⟩ := h
  exact ⟨_, pe_make h2 h4 hr hg h1 h3 .nil pass0 ha.p hdb he hpl, re_make h1 ha.r⟩
/-! keys -/
def toKey : Dat → Option Key
  | .int i => some (.inl i)
  | .str x => some (.inr x)
  | _ => none
def toKeys : List Dat → Option (List Key)
  | [] => some []
  | x :: xs => (toKey x).bind fun k => (toKeys xs).map fun ks => k :: ks
def keyD : Dat → Option (List Key)
  | .tup xs => toKeys xs
  | _ => none
theorem Rp.key {d : Option Addr} {N : Addr → Prop} {H : Hp} {v : V} {x : Dat} {k : Key} (r : Rp K mg d N H v x) (e : toKey x = some k) : v = kV k := by
  cases x <;> first | (cases e; done) | skip
  · cases r; cases e; rfl
  · cases r; cases e; rfl
theorem RpA.keys {d : Option Addr} {N : Addr → Prop} {H : Hp} : ∀ {vs : List V} {xs : List Dat} {k : List Key}, RpA K mg d N H vs xs → toKeys xs = some k → vs = k.map kV
  | _, [], _, r, e => by cases r; cases e; rfl
  | _, x :: xs, k, r, e => by
    cases r with
    | cons r1 r2 =>
      unfold toKeys at e
      cases e1 : toKey x with
      | none => rw [e1] at e; cases e
      | some k1 =>
        rw [e1] at e
        cases e2 : toKeys xs with
        | none => rw [e2] at e; cases e
        | some k2 =>
          rw [e2] at e
          cases e
          rw [r1.key e1, r2.keys e2]
          rfl
theorem Rp.keyT {d : Option Addr} {N : Addr → Prop} {H : Hp} {v : V} {x : Dat} {k : List Key} (r : Rp K mg d N H v x) (e : keyD x = some k) : ∃ b, v = .ref b ∧ H b = some (.tup (k.map kV)) := by
  cases x <;> first | (cases e; done) | skip
  cases r with
  | tup h1 h2 => exact ⟨_, rfl, by rw [h1, h2.keys e]⟩
theorem RpB.keyT {d : Option Addr} {N : Addr → Prop} {H : Hp} {v : V} {x : Dat} {k : List Key} (r : RpB K mg d N H v x) (e : keyD x = some k) : ∃ b, v = .ref b ∧ H b = some (.tup (k.map kV)) := by
  cases x <;> first | (cases e; done) | skip
  exact Rp.keyT (K := K) (mg := mg) (d := d) (N := N) r e
/-! what stands at a key -/
def getA {α : Type} : List (List Key) → List α → List Key → Option α
  | k1 :: ks, x :: xs, k => if k1 = k then some x else getA ks xs k
  | _, _, _ => none
def setA {α : Type} : List (List Key) → List α → List Key → α → List α
  | k1 :: ks, x :: xs, k, y => (if k1 = k then y else x) :: setA ks xs k y
  | _, xs, _, _ => xs
theorem setA_len {α : Type} {k : List Key} {y : α} : ∀ {ks : List (List Key)} {xs : List α}, (setA ks xs k y).length = xs.length
  | [], _ => rfl
  | _ :: _, [] => rfl
  | _ :: ks, _ :: xs => by simp [setA, setA_len (ks := ks) (xs := xs)]
theorem valV_zip {k : List Key} : ∀ {ks : List (List Key)} {vs : List V}, valV (ks.zip vs) k = getA ks vs k
  | [], _ => by simp [valV_nil, getA]
  | _ :: _, [] => by simp [valV_nil, getA]
  | k1 :: ks, v :: vs => by
    rw [List.zip_cons_cons]
    unfold getA
    by_cases e : k1 = k
    · rw [valV_pos (by exact e), if_pos e]
    · rw [valV_neg (by exact e), if_neg e, valV_zip]
theorem getA_rel {d : Option Addr} {N : Addr → Prop} {H : Hp} {k : List Key} : ∀ {ks : List (List Key)} {vs : List V} {xs : List Dat}, RpA K mg d N H vs xs → (∀ x, getA ks xs k = some x → ∃ v, getA ks vs k = some v ∧ Rp K mg d N H v x) ∧ (getA ks xs k = none → getA ks vs k = none)
  | [], _, _, _ => ⟨fun _ h => by simp [getA] at h, fun _ => rfl⟩
  | _ :: _, _, _, .nil => ⟨fun _ h => by simp [getA] at h, fun _ => rfl⟩
  | k1 :: ks, _, _, .cons r1 r2 => by
    unfold getA
    by_cases e : k1 = k
    · rw [if_pos e, if_pos e]
      exact ⟨fun x h => by cases h; exact ⟨_, rfl, r1⟩, fun h => by cases h⟩
    · rw [if_neg e, if_neg e]
      exact getA_rel r2
theorem setA_rel {d : Option Addr} {N : Addr → Prop} {H : Hp} {k : List Key} {v : V} {x : Dat} (r : Rp K mg d N H v x) : ∀ {ks : List (List Key)} {vs : List V} {xs : List Dat}, RpA K mg d N H vs xs → RpA K mg d N H (setA ks vs k v) (setA ks xs k x)
  | [], _, _, h => h
  | _ :: _, _, _, .nil => .nil
  | k1 :: ks, _, _, .cons r1 r2 => by
    unfold setA
    refine .cons ?_ (setA_rel r r2)
    by_cases e : k1 = k
    · rw [if_pos e, if_pos e]; exact r
    · rw [if_neg e, if_neg e]; exact r1
def putA {α : Type} (ks : List (List Key)) (xs : List α) (k : List Key) (x : α) : List (List Key) × List α := if (ks.any fun z => decide (z = k)) = true then (ks, setA ks xs k x) else (ks ++ [k], xs ++ [x])
theorem any_zip {k : List Key} : ∀ {ks : List (List Key)} {vs : List V}, ks.length = vs.length → ((ks.zip vs).any fun kv => decide (kv.1 = k)) = ks.any fun z => decide (z = k)
  | [], _, _ => by simp
  | _ :: _, [], e => by cases e
  | k1 :: ks, v :: vs, e => by
    rw [List.zip_cons_cons, List.any_cons, List.any_cons, any_zip (show ks.length = vs.length by simpa using e)]
theorem map_zip {k : List Key} {v : V} : ∀ {ks : List (List Key)} {vs : List V}, (ks.zip vs).map (fun kv => if kv.1 = k then (kv.1, v) else kv) = ks.zip (setA ks vs k v)
  | [], _ => by simp
  | _ :: _, [] => by simp [setA]
  | k1 :: ks, u :: vs => by
    unfold setA
    rw [List.zip_cons_cons, List.zip_cons_cons, List.map_cons, map_zip]
    by_cases e : k1 = k
    · rw [if_pos e, if_pos e]
    · rw [if_neg e, if_neg e]
theorem putK_zip {k : List Key} {v : V} {ks : List (List Key)} {vs : List V} (e : ks.length = vs.length) : putK (ks.zip vs) k v = (putA ks vs k v).1.zip (putA ks vs k v).2 ∧ (putA ks vs k v).1.length = (putA ks vs k v).2.length := by
  unfold putK putA
  rw [any_zip e]
  split
  · exact ⟨map_zip, by simp [setA_len, e]⟩
  · refine ⟨?_, by simp [e]⟩
    rw [List.zip_append e]
    rfl
theorem putA_rel {d : Option Addr} {N : Addr → Prop} {H : Hp} {k : List Key} {v : V} {x : Dat} {ks : List (List Key)} {vs : List V} {xs : List Dat} (r : Rp K mg d N H v x) (h : RpA K mg d N H vs xs) : (putA ks vs k v).1 = (putA ks xs k x).1 ∧ RpA K mg d N H (putA ks vs k v).2 (putA ks xs k x).2 := by
  unfold putA
  split
  · exact ⟨rfl, setA_rel r h⟩
  · exact ⟨rfl, h.append (.cons r .nil)⟩
theorem u1 {X : Cx} {kk : Nat} (hr : Room kk X.A) : X.A.units + 1 < cLine := by have := hr.units; omega
/-! the rules -/
/-- what a dict datum holds -/
def dctD : Dat → Option (List (List Key) × List Dat)
  | .dT ks xs => some (ks, xs)
  | _ => none
theorem RpB.dct {d : Option Addr} {N : Addr → Prop} {H : Hp} {v : V} {y : Dat} {ks : List (List Key)} {xs : List Dat} (r : RpB K mg d N H v y) (e : dctD y = some (ks, xs)) : ∃ a vs, v = .ref a ∧ Rd H a (.dT (ks.zip vs)) ∧ ks.length = vs.length ∧ RpA K mg d N H vs xs := by
  cases y <;> first | (cases e; done) | skip
  cases e
  obtain ⟨a, vs, h1, h2, h3, _, h4⟩ := r
  exact ⟨a, vs, h1, h2, h3, h4⟩
/-- d[k] -/
def eDctGet (f g : E) : E := fun env δ => (f env δ).bind fun r => (g env r.2).bind fun u => (dctD r.1).bind fun z => (keyD u.1).bind fun k => (getA z.1 z.2 k).map fun x => (x, u.2)
theorem d_dgetT {kk : Nat} (hr : Room kk X.A) (ho : DE X o td f) (hi : DE X i ty g) (hs : NoSl i := by exact fun _ _ => rfl) : DS X (.Subscript o i pos) (tDGet td ty) (eDctGet f g) := by
  refine ⟨pe_dget (u1 hr) ho.p hi.p hs, fun q σ H env δ x δ' Q k ef kq => ?_⟩
  unfold eDctGet at ef
  cases e1 : f env δ with
  | none => rw [e1] at ef; cases ef
  | some r1 =>
    obtain ⟨y, δ1⟩ := r1
    rw [e1] at ef
    cases e2 : g env δ1 with
    | none => simp [e2] at ef
    | some r2 =>
      obtain ⟨u, δ2⟩ := r2
      simp only [Option.bind_some, e2] at ef
      cases e3 : dctD y with
      | none => simp [e3] at ef
      | some z =>
        obtain ⟨ks, xs⟩ := z
        cases e4 : keyD u with
        | none => simp [e3, e4] at ef
        | some key =>
          simp only [e3, e4, Option.bind_some] at ef
          cases e5 : getA ks xs key with
          | none => simp [e5] at ef
          | some w =>
            simp only [e5, Option.map_some, Option.some.injEq, Prod.mk.injEq] at ef
            obtain ⟨rfl, rfl⟩ := ef
            refine ho.r q σ H env δ y δ1 _ k e1 fun v H1 k1 o1 r1 => ?_
            refine hi.r q σ H1 env δ1 u δ2 _ o1 e2 fun v2 H2 k2 o2 r2 => ?_
            obtain ⟨a, vs, rfl, h1, h2, h3⟩ := RpB.dct (r1.keep k.dn k2 fun b z => .inl z) e3
            obtain ⟨b, rfl, hb⟩ := RpB.keyT r2 e4
            obtain ⟨w', g1, g2⟩ := (getA_rel (k := key) (ks := ks) h3).1 w e5
            exact ⟨a, w', rfl, .inr ⟨_, key, b, h1, rfl, hb, by rw [valV_zip, g1]⟩, kq w' H2 (k1.trans k2) o2 g2⟩
/-- k in d -/
def eDin (neg : Bool) (f g : E) : E := fun env δ => (f env δ).bind fun r => (g env r.2).bind fun u => (dctD u.1).bind fun z => (keyD r.1).map fun k => (.bl (cond neg (!(getA z.1 z.2 k).isSome) (getA z.1 z.2 k).isSome), u.2)
theorem din_core {q : Fm} {σ : St} {H : Hp} {env : Ev} {δ : List Int} {x : Dat} {δ' : List Int} {neg : Bool} {Q : VK} (hi : DE X i ty g) (ho : DE X o td f) (k : Ok X.K X.mg q σ H env δ) (ef : eDin neg g f env δ = some (x, δ'))
    (kq : ∀ v H', Keep (isD q.d) H H' → Ok X.K X.mg q σ H' env δ' → Rp X.K X.mg q.d (NN q σ env) H' v x → Q v H') :
    ty σ H fun y H1 => td σ H1 fun x H2 => ∃ a o, x = .ref a ∧ DGet H2 a y o ∧ Q (.bl (cond neg (!o.isSome) o.isSome)) H2 := by
  unfold eDin at ef
  cases e1 : g env δ with
  | none => rw [e1] at ef; cases ef
  | some r1 =>
    obtain ⟨y, δ1⟩ := r1
    rw [e1] at ef
    cases e2 : f env δ1 with
    | none => simp [e2] at ef
    | some r2 =>
      obtain ⟨u, δ2⟩ := r2
      simp only [Option.bind_some, e2] at ef
      cases e3 : dctD u with
      | none => simp [e3] at ef
      | some z =>
        obtain ⟨ks, xs⟩ := z
        cases e4 : keyD y with
        | none => simp [e3, e4] at ef
        | some key =>
          simp only [e3, e4, Option.bind_some, Option.map_some, Option.some.injEq, Prod.mk.injEq] at ef
          obtain ⟨rfl, rfl⟩ := ef
          refine hi.r q σ H env δ y δ1 _ k e1 fun v H1 k1 o1 r1 => ?_
          refine ho.r q σ H1 env δ1 u δ2 _ o1 e2 fun v2 H2 k2 o2 r2 => ?_
          obtain ⟨a, vs, rfl, h1, h2, h3⟩ := RpB.dct r2 e3
          obtain ⟨b, rfl, hb⟩ := RpB.keyT (r1.keep k.dn k2 fun b z => .inl z) e4
          refine ⟨a, getA ks vs key, rfl, .inr ⟨_, key, b, h1, rfl, hb, valV_zip.symm⟩, ?_⟩
          have es : (getA ks vs key).isSome = (getA ks xs key).isSome := by
            cases e5 : getA ks xs key with
            | none => rw [(getA_rel (k := key) (ks := ks) h3).2 e5]; rfl
            | some w =>
              obtain ⟨w', g1, _⟩ := (getA_rel (k := key) (ks := ks) h3).1 w e5
              rw [g1]; rfl
          rw [es]
          exact kq _ H2 (k1.trans k2) o2 (.bl _)
theorem d_din {kk : Nat} (hr : Room kk X.A) (hi : DE X i ty g) (ho : DE X o td f) (hm : behindInMarks .In o = false := by rfl) : DS X (.Compare i [.In] [o] pos) (tDIn ty td) (eDin false g f) :=
  ⟨pe_cmp (pc_din (u1 hr) hi.p ho.p) hm, fun q σ H env δ x δ' Q k ef kq => din_core (neg := false) hi ho k ef kq⟩
theorem d_tdin {kk : Nat} (hr : Room kk X.A) (hi : DE X i ty g) (ho : DE X o td f) (hm : behindInMarks .In o = false := by rfl) : DT X (.Compare i [.In] [o] pos) (tB (tDIn ty td)) (eTest (eDin false g f)) :=
  ⟨pt_cmp (pc_din (u1 hr) hi.p ho.p) hm, rt_test (d_din (pos := pos) hr hi ho hm).w.r⟩
theorem d_dnin {kk : Nat} (hr : Room kk X.A) (hi : DE X i ty g) (ho : DE X o td f) (hm : behindInMarks .NotIn o = false := by rfl) : DS X (.Compare i [.NotIn] [o] pos) (tDNotIn ty td) (eDin true g f) :=
  ⟨pe_cmp (pc_dnotin (u1 hr) hi.p ho.p) hm, fun q σ H env δ x δ' Q k ef kq => din_core (neg := true) hi ho k ef kq⟩
theorem d_tdnin {kk : Nat} (hr : Room kk X.A) (hi : DE X i ty g) (ho : DE X o td f) (hm : behindInMarks .NotIn o = false := by rfl) : DT X (.Compare i [.NotIn] [o] pos) (tB (tDNotIn ty td)) (eTest (eDin true g f)) :=
  ⟨pt_cmp (pc_dnotin (u1 hr) hi.p ho.p) hm, rt_test (d_dnin (pos := pos) hr hi ho hm).w.r⟩
/-- len(d) -/
def dLenT : List Dat → Option Dat
  | [.dT ks xs] => some (.int ks.length)
  | _ => none
theorem ref_lenT : RefC K mg (fun xs H Q => ∃ (p : Addr) (kvs : List (List Key × V)), xs = [V.ref p] ∧ Rd H p (.dT kvs) ∧ Q (.int ((kvs.length : Nat) : Int)) H) dLenT := by
  intro d N H vs xs z Q hd hN r e kq
  match xs, vs, r with
  | [x], [v], ⟨r, _⟩ =>
    cases x <;> first | (cases e; done) | skip
    cases e
    obtain ⟨a, ws, rfl, h2, h3, _, h5⟩ := r
    refine ⟨a, _, rfl, h2, ?_⟩
    rw [List.length_zip, ← h3, Nat.min_self]
    exact kq _ H same_refl (.int _)
  | [], _, _ => cases e
  | x :: _ :: _, _, _ => cases x <;> cases e
end
/-! a new thing that a slot takes -/
section
variable {K : PySem.W.Frag} {mg : Str → Option Value} {q : Fm} {H H' : Hp} {σ : St} {env : Ev} {δ δ' : List Int}
theorem Ok.conNew (k : Ok K mg q σ H env δ) {p : Addr} {vo : List V × HO} {l : Lc} (hp : H p = none) (r : Cn K mg q.d (NN q σ env) H vo l) (ho : l.1.isObj = false) (i : Nat) : Ok K mg q (σ.set i (some (.ref p))) (upd H p vo.2) (env.set i (.own l)) δ := by
  have s := same_fresh (o := vo.2) hp
  have k' := k.grow s
  have hN : ∀ b, NN q (σ.set i (some (.ref p))) (env.set i (.own l)) b → NN q σ env b ∨ H b = none := fun b z => by
    rcases z with z | z | ⟨j, l2, z1, z2⟩
    · exact .inl (.inl z)
    · exact .inl (.inr (.inl z))
    · rcases get_set_some z1 with ⟨rfl, e', hl⟩ | ⟨ne, z1'⟩
      · rw [List.getElem?_set_self (by rw [k.ln]; exact hl)] at z2
        cases z2
        exact .inr hp
      · rw [List.getElem?_set_ne ne] at z2
        exact .inl (.inr (.inr ⟨j, l2, z1', z2⟩))
  have hK : Keep (NN q σ env) H (upd H p vo.2) := .of_same s
  have free : ∀ (j : Nat) (l2 : Lc), env[j]? = some (.own l2) → σ[j]? ≠ some (some (.ref p)) := fun j l2 h1 h2 => by
    obtain ⟨a, vs, e1, e2, e3, _⟩ := k.ow j l2 h1
    rw [h2] at e1
    cases e1
    rw [hp] at e3
    cases e3
  refine ⟨k'.kp, k'.dc, k.dm, k.md, by simp [k.ln], k.sf.set fun l2 e => by cases e; exact ho, fun j y e => ?_, fun j l2 e => ?_, fun j1 j2 l1 l2 a e1 e2 e3 e4 => ?_, RpA.keep hK hN _ _ k.gh, fun a l2 e => ?_⟩
  · rcases get_set_some e with ⟨rfl, e', hl⟩ | ⟨ne, e'⟩
    · cases e'
    · obtain ⟨w, e1, r1⟩ := k.vl j y e'
      exact ⟨w, by rw [List.getElem?_set_ne ne]; exact e1, Rp.keep hK hN _ _ r1⟩
  · rcases get_set_some e with ⟨rfl, e', hl⟩ | ⟨ne, e'⟩
    · cases e'
      exact ⟨p, vo, List.getElem?_set_self (by rw [k.ln]; exact hl), k.free0 hp, upd_same, Cn.keep hK hN _ _ r⟩
    · obtain ⟨a, vs, e1, e2, e3, r1⟩ := k.ow j l2 e'
      exact ⟨a, vs, by rw [List.getElem?_set_ne ne]; exact e1, e2, s a _ e3, Cn.keep hK hN _ _ r1⟩
  · rcases get_set_some e1 with ⟨rfl, e', hl⟩ | ⟨ne1, e1'⟩
    · rw [List.getElem?_set_self (by rw [k.ln]; exact hl)] at e3
      cases e3
      rcases get_set_some e2 with ⟨h, _, _⟩ | ⟨ne2, e2'⟩
      · exact h
      · rw [List.getElem?_set_ne ne2] at e4
        exact absurd e4 (free j2 l2 e2')
    · rw [List.getElem?_set_ne ne1] at e3
      rcases get_set_some e2 with ⟨rfl, e', hl⟩ | ⟨ne2, e2'⟩
      · rw [List.getElem?_set_self (by rw [k.ln]; exact hl)] at e4
        cases e4
        exact absurd e3 (free j1 l1 e1')
      · rw [List.getElem?_set_ne ne2] at e4
        exact k.ds j1 j2 l1 l2 a e1' e2' e3 e4
  · obtain ⟨e1, ⟨ws, e3, r1⟩, e4⟩ := k.go a l2 e
    refine ⟨e1, ⟨ws, s a _ e3, RpA.keep hK hN _ _ r1⟩, fun j l3 e5 => ?_⟩
    rcases get_set_some e5 with ⟨rfl, e', hl⟩ | ⟨ne, e5'⟩
    · rw [List.getElem?_set_self (by rw [k.ln]; exact hl)]
      intro z
      cases z
      rw [hp] at e3
      cases e3
    · rw [List.getElem?_set_ne ne]
      exact e4 j l3 e5'
end
section
variable {X : Cx} {e o a b i value : Expr} {es : List Expr} {t te td ty : TE} {tr : TA} {f g : E} {fr : EA} {pos p apos pos' : Pos} {c nm : Str} {K : PySem.W.Frag} {mg : Str → Option Value}
/-- x = {} -/
def gNewT (i : Nat) : Sg := fun env δ => some (.nx (env.set i (.own (.dT [], []))) δ)
theorem d_newT (i : Nat) {x : Expr} (h : ∀ {te : TE}, PE X (.Dict [] [] p) te → PS X (.Assign [x] (.Dict [] [] p) pos) (tAsg te (gName i))) : DSt X (.Assign [x] (.Dict [] [] p) pos) (tAsg tDNewT (gName i)) (gNewT i) := by
  refine ⟨h pe_dnewT, fun q σ H env δ out D k ef ko => ?_⟩
  cases ef
  intro d hd
  exact ko _ _ (k.conNew (vo := ([], .dT [])) hd ⟨.dT (ks := []) (vs := []) rfl, .nil⟩ rfl i)
/-- x[k] = v -/
def gPutT (j : Nat) (f g : E) : Sg := fun env δ => (f env δ).bind fun r => (g env r.2).bind fun u => match env[j]? with
  | some (.own (.dT ks, l)) => if ks.length < 1000000 ∧ ks.length = l.length then (keyD u.1).map fun k => .nx (env.set j (.own (.dT (putA ks l k r.1).1, (putA ks l k r.1).2))) u.2 else none
  | _ => none
theorem d_putT {kk : Nat} (j : Nat) (hr : Room kk X.A) (ho : PE X o (tVar j)) (hi : DE X i ty g) (hv : DS X value te f) (hs : swapsWith value (some (.Subscript o i pos')) pos.line X.env = pure false := by rfl) :
    DSt X (.Assign [.Subscript o i pos'] value pos) (sDPut (tVar j) ty te) (gPutT j f g) := by
  refine ⟨ps_dput (u1 hr) ho hi.p hv.p hs, fun q σ H env δ out D k ef ko => ?_⟩
  unfold gPutT at ef
  cases e1 : f env δ with
  | none => rw [e1] at ef; cases ef
  | some r1 =>
    obtain ⟨y, δ1⟩ := r1
    rw [e1] at ef
    cases e2 : g env δ1 with
    | none => simp [e2] at ef
    | some r2 =>
      obtain ⟨u, δ2⟩ := r2
      simp only [Option.bind_some, e2] at ef
      split at ef
      · rename_i ks l hl
        split at ef
        · rename_i hc
          cases e4 : keyD u with
          | none => rw [e4] at ef; cases ef
          | some key =>
            rw [e4] at ef
            cases ef
            refine hv.r q σ H env δ y δ1 _ k e1 fun v H1 k1 o1 r1 => ?_
            obtain ⟨a0, _, s0, _⟩ := o1.ow j _ hl
            refine ⟨_, s0, hi.r q σ H1 env δ1 u δ2 _ o1 e2 fun v2 H2 k2 o2 r2 => ?_⟩
            obtain ⟨b, rfl, hb⟩ := RpB.keyT r2 e4
            obtain ⟨a, ⟨vs, ob⟩, s1, g1, g3, co, gr⟩ := o2.ow j _ hl
            rw [s0] at s1
            cases s1
            have co : Co X.mg (.dT ks) vs ob := co
            have g3 : H2 a0 = some ob := g3
            have gr : RpA X.K X.mg q.d (NN q σ env) H2 vs l := gr
            have r1 := Rp.keep (k2.weak o1.dn) (fun b z => .inl z) _ _ r1
            cases co with
            | dT hlen =>
              obtain ⟨p1, p2⟩ := putK_zip (k := key) (v := v) hlen
              obtain ⟨p3, p4⟩ := putA_rel (k := key) (ks := ks) r1 gr
              refine ⟨a0, _, rfl, .inr ⟨_, key, b, g3, rfl, hb, ?_, rfl⟩, ?_⟩
              · rw [List.length_zip]
                exact Nat.lt_of_le_of_lt (Nat.min_le_left _ _) (lt_line hc.1)
              · rw [p1]
                refine ko σ _ (o2.conUpd (vs' := ((putA ks vs key v).2, .dT ((putA ks vs key v).1.zip (putA ks vs key v).2))) hl s0 ⟨?_, p4⟩ fun z => by cases z)
                rw [← p3]
                exact .dT p2
        · cases ef
      · cases ef
/-- it is a value from now on -/
def gFreezeT (i : Nat) (g : Sg) : Sg := fun env δ => match env[i]? with
  | some (.own (.dT ks, l)) => g (env.set i (.val (.dT ks l))) δ
  | _ => none
theorem d_freezeT {sts : List Stmt} {t : TS} {g : Sg} (i : Nat) (h : DSs X sts t g) : DSs X sts t (gFreezeT i g) := by
  refine ⟨h.p, fun q σ H env δ o D k ef ko => ?_⟩
  unfold gFreezeT at ef
  split at ef
  · rename_i l hl
    exact h.r q σ H _ δ o D (k.freezeC hl) ef ko
  · cases ef
def gRetC (i : Nat) : Sg := fun env δ => match env[i]? with
  | some (.own l) => some (.rt (Lc.dat l) δ)
  | _ => none
theorem d_retC (i : Nat) (he : PE X e (tVar i)) : DSt X (.Return (some e) pos) (tRet (tVar i)) (gRetC i) := by
  refine ⟨ps_ret he, fun q σ H env δ o D k ef ko => ?_⟩
  unfold gRetC at ef
  split at ef
  · rename_i l hl
    cases ef
    have k2 := k.freezeC hl
    obtain ⟨v, s1, r⟩ := k2.vl i _ (List.getElem?_set_self (List.getElem?_eq_some_iff.mp hl).1)
    exact ⟨v, s1, k2.ret (D := D) (fun v' H' a b c => ko v' H' a b c) r⟩
  · cases ef
end
end Dl

/-! len, list and a walk of a dict whose keys are tuples; the statement that locks it. -/
namespace Dl
open PySem PySem.Spec L2
/-- len(d), a locked one too -/
def rLenR : List V → Hp → VK → Prop := fun xs H Q => ∃ (p : Addr) (kvs : List (List Key × V)), xs = [V.ref p] ∧ Rd H p (.dT kvs) ∧ Q (.int ((kvs.length : Nat) : Int)) H
theorem cr_lenR {X : Cx} : CallR X (.builtin "len") rLenR := fun pins st σ H vs us Q I rel ⟨p, kvs, ev, rd, kq⟩ => by
  subst ev
  obtain ⟨u, eu, ru⟩ := vals1 rel
  subst eu
  cases (show u = Value.ref p from ru)
  have ⟨small, nosys, entries, kt, dict⟩ := dt_rd I.hok rd
  have same : entries.length = kvs.length := (Paired.length kt).symm
  refine PySem.call_len_dictH nosys dict (by rw [same, sizeLine_eq] at *; omega) ?_
  exact ⟨.int (kvs.length : Nat), H, I.tok _, ⟨_, by rw [same]⟩, kq⟩
section
variable {K : PySem.W.Frag} {mg : Str → Option Value}
theorem ref_lenR : RefC K mg rLenR dLenT := ref_lenT
/-- a key as data -/
def ofKey : Key → Dat
  | .inl i => .int i
  | .inr x => .str x
def ofKeys (k : List Key) : Dat := .tup (k.map ofKey)
theorem rp_ofKey {d : Option Addr} {N : Addr → Prop} {H : Hp} : ∀ k : Key, Rp K mg d N H (kV k) (ofKey k)
  | .inl i => .int i
  | .inr x => .str x
theorem rpA_ofKey {d : Option Addr} {N : Addr → Prop} {H : Hp} : ∀ k : List Key, RpA K mg d N H (k.map kV) (k.map ofKey)
  | [] => .nil
  | k :: ks => .cons (rp_ofKey k) (rpA_ofKey ks)
theorem rp_ofKeys {d : Option Addr} {N : Addr → Prop} {H : Hp} {b : Addr} {k : List Key} (h : H b = some (.tup (k.map kV))) : Rp K mg d N H (.ref b) (ofKeys k) := .tup h (rpA_ofKey k)
theorem rpA_keys {d : Option Addr} {N : Addr → Prop} {H : Hp} : ∀ {ks : List (List Key)} {vs : List V} {bs : List Addr}, ks.length = vs.length → IsKeys H (ks.zip vs) bs → RpA K mg d N H (bs.map V.ref) (ks.map ofKeys)
  | [], _, _, _, h => by
    rw [List.zip_nil_left] at h
    cases h
    exact .nil
  | k :: ks, [], _, e, _ => by cases e
  | k :: ks, v :: vs, _, e, h => by
    rw [List.zip_cons_cons] at h
    cases h with
    | cons h1 h2 => exact .cons (rp_ofKeys h1) (rpA_keys (by simpa using e) h2)
/-- list(d) -/
def rListR : List V → Hp → VK → Prop := fun xs H Q => ∃ d kvs, xs = [V.ref d] ∧ Rd H d (.dT kvs) ∧ ∀ p bs, H p = none → IsKeys H kvs bs → Q (.ref p) (upd H p (.lst (bs.map V.ref)))
def dListT : List Dat → Option Dat
  | [.dT ks xs] => some (.lst (ks.map ofKeys))
  | _ => none
theorem ref_listR : RefC K mg rListR dListT := by
  intro d N H vs xs z Q hd hN r e kq
  match xs, vs, r with
  | [x], [v], ⟨r, _⟩ =>
    cases x <;> first | (cases e; done) | skip
    cases e
    obtain ⟨a, ws, rfl, h2, h3, _, h5⟩ := r
    refine ⟨a, _, rfl, h2, fun p bs hp hk => ?_⟩
    have s := same_fresh (o := .lst (bs.map V.ref)) hp
    exact kq _ _ s (.lst upd_same (fun z => hN _ z hp) (RpA.keep (N := N) (.of_same s) (fun b z => .inl z) _ _ (rpA_keys h3 hk)))
  | [], _, _ => cases e
  | x :: _ :: _, _, _ => cases x <;> cases e
end
/-! ### a dict that is locked, or no more -/
section
variable {K : PySem.W.Frag} {mg : Str → Option Value}
/-- alike but at a, where the dict stands in both -/
structure Swp (H H1 : Hp) (a : Addr) (kvs : List (List Key × V)) : Prop where
  ne : ∀ b, b ≠ a → H1 b = H b
  l : Rd H a (.dT kvs)
  r : Rd H1 a (.dT kvs)
theorem rd_dT {H : Hp} {a : Addr} {o u : HO} (h : H a = some o) (r : Rd H a u) : o = u ∨ ∃ ob, o = .frz ob u := by
  rcases r with r | ⟨ob, r⟩
  · rw [h] at r; cases r; exact .inl rfl
  · rw [h] at r; cases r; exact .inr ⟨ob, rfl⟩
theorem plain_rd {H : Hp} {a : Addr} {kvs : List (List Key × V)} (r : Rd H a (.dT kvs)) : Plain a (H a) := fun o e => by
  rcases rd_dT e r with rfl | ⟨ob, rfl⟩ <;> exact ⟨rfl, noC rfl⟩
theorem plain_of {a : Addr} {x y : Option HO} (h : x = none ∨ x = y) (p : Plain a y) : Plain a x := fun o e => by
  rcases h with h | h
  · rw [h] at e; cases e
  · exact p o (by rw [← h]; exact e)
theorem Swp.off {H H1 : Hp} {a b : Addr} {kvs : List (List Key × V)} {o : HO} (s : Swp H H1 a kvs) (h : H b = some o) (h1 : o ≠ .dT kvs) (h2 : ∀ ob, o ≠ .frz ob (.dT kvs)) : H1 b = some o := by
  rw [s.ne b fun e => ?_, h]
  subst e
  rcases rd_dT h s.l with e | ⟨ob, e⟩
  · exact h1 e
  · exact h2 ob e
mutual
theorem Rp.swp {d : Option Addr} {N : Addr → Prop} {H H1 : Hp} {a : Addr} {kvs : List (List Key × V)} (s : Swp H H1 a kvs) : ∀ (x : Dat) (v : V), Rp K mg d N H v x → Rp K mg d N H1 v x
  | .non, _, h => by cases h; exact .non
  | .bl b, _, h => by cases h; exact .bl b
  | .int i, _, h => by cases h; exact .int i
  | .str x, _, h => by cases h; exact .str x
  | .dice, _, h => by
    cases h with
    | dice e => exact .dice e
  | .tup xs, _, h => by
    cases h with
    | tup h1 h2 => exact .tup (s.off h1 (by intro z; cases z) (by intro ob z; cases z)) (RpA.swp s xs _ h2)
  | .ctup xs, _, h => by
    cases h with
    | ctup h1 h2 =>
      refine .ctup ?_ (RpA.swp s xs _ h2)
      rcases h1 with (h1 | ⟨o, h1⟩) | h1
      · exact .inl (.inl (s.off h1 (by intro z; cases z) (by intro ob z; cases z)))
      · exact .inl (.inr ⟨o, s.off h1 (by intro z; cases z) (by intro ob z; cases z)⟩)
      · exact .inr h1
  | .lst xs, _, h => by
    cases h with
    | lst h1 h2 h3 => exact .lst (s.off h1 (by intro z; cases z) (by intro ob z; cases z)) h2 (RpA.swp s xs _ h3)
  | .obj c ks xs, _, h => by
    cases h with
    | obj hc h1 hl h2 h3 => exact .obj hc (s.off h1 (by intro z; cases z) (by intro ob z; cases z)) hl h2 (RpA.swp s xs _ h3)
  | .dT ks xs, _, h => by
    cases h with
    | dT h1 hl h2 h3 =>
      rename_i b vs
      refine .dT ?_ hl h2 (RpA.swp s xs _ h3)
      by_cases e : b = a
      · subst e
        have : kvs = ks.zip vs := by
          rcases h1 with h1 | ⟨o, h1⟩
          · rcases rd_dT h1 s.l with e | ⟨ob, e⟩
            · cases e; rfl
            · cases e
          · rcases rd_dT h1 s.l with e | ⟨ob, e⟩
            · cases e
            · cases e; rfl
        rw [← this]
        exact s.r
      · rcases h1 with h1 | ⟨o, h1⟩
        · exact .inl (by rw [s.ne b e]; exact h1)
        · exact .inr ⟨o, by rw [s.ne b e]; exact h1⟩
  | .ftup xs, _, h => by
    cases h with
    | ftup h1 ho h2 => exact .ftup (s.off h1 (by intro z; cases z) (by intro ob z; cases z)) ho (RpA.swp s xs _ h2)
  | .dK ks xs, _, h => by
    cases h with
    | dK h1 hl h2 h3 =>
      refine .dK ?_ hl h2 (RpA.swp s xs _ h3)
      rcases h1 with h1 | ⟨o, h1⟩
      · exact .inl (s.off h1 (by intro z; cases z) (by intro ob z; cases z))
      · exact .inr ⟨o, s.off h1 (by intro z; cases z) (by intro ob z; cases z)⟩
  | .cst v, _, h => by cases h; exact .cst _
theorem RpA.swp {d : Option Addr} {N : Addr → Prop} {H H1 : Hp} {a : Addr} {kvs : List (List Key × V)} (s : Swp H H1 a kvs) : ∀ (xs : List Dat) (vs : List V), RpA K mg d N H vs xs → RpA K mg d N H1 vs xs
  | [], _, h => by cases h; exact .nil
  | x :: xs, _, h => by
    cases h with
    | cons h1 h2 => exact .cons (Rp.swp s x _ h1) (RpA.swp s xs _ h2)
end
theorem Ok.swp {q : Fm} {σ : St} {H H1 : Hp} {env : Ev} {δ : List Int} {a : Addr} {kvs : List (List Key × V)} {H0 : Hp} (k : Ok K mg q σ H env δ) (s : Swp H H1 a kvs) (hn : ¬ NN q σ env a) (h0 : ∀ b, b ≠ a → H0 b = q.H0 b) (ha : H0 a = none ∨ H0 a = H1 a) : Ok K mg { q with H0 := H0 } σ H1 env δ := by
  have hd : q.d ≠ some a := fun z => hn (.inl (k.dm a z))
  have hN : ∀ b, NN { q with H0 := H0 } σ env b → NN q σ env b := fun b z => z
  refine ⟨keep_but k.kp h0 s.ne ha (plain_of ha (plain_rd s.r)) (plain_rd s.l), fun b e => ?_, k.dm, fun b hb => ?_, k.ln, k.sf, fun i x e => ?_, fun i l e => ?_, k.ds, RpA.swp s _ _ k.gh, fun b l e => ?_⟩
  · have e' : b ≠ a := fun z => hd (by rw [← z]; exact e)
    rw [s.ne b e']
    exact k.dc b e
  · have e' : b ≠ a := fun z => hn (.inl (by rw [← z]; exact hb))
    show H0 b ≠ none
    rw [h0 b e']
    exact k.md b hb
  · obtain ⟨v, e1, r⟩ := k.vl i x e
    exact ⟨v, e1, Rp.swp s _ _ r⟩
  · obtain ⟨b, vs, e1, e2, e3, co, r⟩ := k.ow i l e
    have e' : b ≠ a := fun z => hn (.inr (.inr ⟨i, l, e, by rw [← z]; exact e1⟩))
    exact ⟨b, vs, e1, by rw [← e2]; exact h0 b e', by rw [s.ne b e']; exact e3, co, RpA.swp s _ _ r⟩
  · obtain ⟨e1, ⟨vs, e3, r⟩, e4⟩ := k.go b l e
    have e' : b ≠ a := fun z => hn (.inr (.inl ⟨l, by rw [← z]; exact e⟩))
    exact ⟨by rw [← e1]; exact h0 b e', ⟨vs, by rw [s.ne b e']; exact e3, RpA.swp s _ _ r⟩, e4⟩
end
section
variable {X : Cx} {e iter tg : Expr} {t te : TE} {f : E} {pos : Pos} {st : Stmt} {ts : TS} {g : Sg} {tb : TS}
theorem ps_or {t1 t2 : TS} (h1 : PS X st t1) (h2 : PS X st t2) : PS X st (fun D σ H => t1 D σ H ∨ t2 D σ H) := ⟨fun pins s σ H D I h => h.elim (fun h => h1.run pins s σ H D I h) fun h => h2.run pins s σ H D I h⟩
/-- for .. in d, the keys of the dict at a name -/
def gForK (i : Nat) (gd : GT) (g : Sg) : Sg := fun env δ => match env[i]? with
  | some (.val (.dT ks xs)) => forD gd g (ks.map ofKeys) env δ
  | _ => none
/-- the walk, the dict locked -/
theorem forK_core {q : Fm} {σ : St} {H : Hp} {env : Ev} {δ : List Int} {out : Out} {D : Ends} {gd : GT} {tgd : TG} {us : List Nat} {body : List Stmt} {a : Addr} {o : Obj} {ks : List (List Key)} {vs : List V} (hg : DG X tg tgd gd us) (hb : DSs X body tb g)
    (h0 : q.H0 a = some (.frz o (.dT (ks.zip vs)))) (hd : q.d ≠ some a) (hl : ks.length = vs.length) (k : Ok X.K X.mg q σ H env δ) (ef : forD gd g (ks.map ofKeys) env δ = some out) (ko : EOk X.K X.mg q D out) :
    ∃ W : Nat → Nat → St → Hp → Prop, (∃ m, W 0 m σ H) ∧ ∀ i m σ H, W i m σ H →
      ((Itkt a o (ks.zip vs)).stop i H ∧ D.nx σ H) ∨ ((Itkt a o (ks.zip vs)).go i H ∧ ∃ N : St → Hp → Prop, (∀ σ' H', N σ' H' → ∃ m', m' < m ∧ W (i + 1) m' σ' H') ∧ ∀ x H', (Itkt a o (ks.zip vs)).yld i H x H' → tgd x σ H' fun σ2 H2 => tb { D with nx := N, ct := N, bk := D.nx } σ2 H2) := by
  have len : (ks.zip vs).length = ks.length := by rw [List.length_zip, ← hl, Nat.min_self]
  have fz : ∀ {σ : St} {H : Hp} {env : Ev} {δ : List Int}, Ok X.K X.mg q σ H env δ → H a = some (.frz o (.dT (ks.zip vs))) := fun k => k.kp a _ h0 fun z => absurd (noT z rfl) hd
  refine ⟨fun i m σ H => m = ks.length - i ∧ i ≤ ks.length ∧ ∃ env δ, Ok X.K X.mg q σ H env δ ∧ forD gd g ((ks.map ofKeys).drop i) env δ = some out, ⟨ks.length, by simp, Nat.zero_le _, env, δ, k, ef⟩, ?_⟩
  rintro i m σ H ⟨rfl, hi', env, δ, k, ef⟩
  by_cases hlt : i < ks.length
  · have hlt' : i < (ks.map ofKeys).length := by simpa using hlt
    rw [List.drop_eq_getElem_cons hlt'] at ef
    refine .inr ⟨⟨fz k, by rw [len]; exact hlt⟩, fun σ' H' => ∃ env δ, Ok X.K X.mg q σ' H' env δ ∧ forD gd g ((ks.map ofKeys).drop (i + 1)) env δ = some out, fun σ' H' h => ⟨ks.length - (i + 1), by omega, rfl, hlt, h⟩, fun v H' y => ?_⟩
    obtain ⟨rfl, key, w, b, e1, rfl, hb'⟩ := y
    have ek : key = ks[i] := by
      have := congrArg (Option.map Prod.fst) e1
      rw [← List.getElem?_map, List.map_fst_zip (by omega)] at this
      rw [List.getElem?_eq_getElem hlt] at this
      exact (Option.some.inj this).symm
    subst ek
    have rx : Rp X.K X.mg q.d (NN q σ env) H' (.ref b) ((ks.map ofKeys)[i]) := by
      rw [List.getElem_map]
      exact rp_ofKeys hb'
    unfold forD at ef
    cases e2 : gd (ks.map ofKeys)[i] env with
    | none => rw [e2] at ef; cases ef
    | some env1 =>
      rw [e2] at ef
      refine hg.r q σ H' env δ _ _ env1 _ k rx e2 fun σ2 _ _ k2 => ?_
      simp only [Option.bind_some] at ef
      cases e3 : g env1 δ with
      | none => rw [e3] at ef; cases ef
      | some o3 =>
        rw [e3] at ef
        refine hb.r q σ2 H' env1 δ o3 _ k2 e3 ?_
        cases o3 with
        | nx env' δ' => exact fun σ' H' k' => ⟨env', δ', k', ef⟩
        | ct env' δ' => exact fun σ' H' k' => ⟨env', δ', k', ef⟩
        | bk env' δ' =>
          cases ef
          exact fun σ' H' k' => ko σ' H' k'
        | rt x δ' =>
          cases ef
          exact ko
  · have e' : i = ks.length := by omega
    subst e'
    rw [List.drop_of_length_le (by simp)] at ef
    cases ef
    exact .inl ⟨⟨fz k, by rw [len]; exact Nat.le_refl _⟩, ko σ H k⟩
/-- back to the frame's own reading -/
theorem ok_back {q : Fm} {σ : St} {H H' : Hp} {env : Ev} {δ : List Int} {a : Addr} {o : Obj} {kvs : List (List Key × V)} {K : PySem.W.Frag} {mg : Str → Option Value} (hM : ¬ q.M a) (hgo : ∀ l, (a, l) ∉ q.go) (k : Ok K mg { q with H0 := upd q.H0 a (.frz o (.dT kvs)) } σ H env δ) (s : Swp H H' a kvs) (h0 : q.H0 a = none ∨ q.H0 a = H' a) : Ok K mg q σ H' env δ := by
  refine k.swp (H0 := q.H0) s (fun z => ?_) (fun b hb => (upd_ne hb).symm) h0
  rcases z with z | ⟨l, z⟩ | ⟨i, l, z1, z2⟩
  · exact hM z
  · exact hgo l z
  · obtain ⟨b, _, e1, e2, _⟩ := k.ow i l z1
    rw [z2] at e1
    cases e1
    have e2 : upd q.H0 a (.frz o (.dT kvs)) a = none := e2
    rw [upd_same] at e2
    cases e2
theorem d_forK {tgd : TG} {gd : GT} {us : List Nat} {body : List Stmt} (i : Nat) (hp : PassesOwn (model X.prog X.w) X.A X.env X.xe) (hc : X.calm = true) (hi : PE X e (tVar i)) (hg : DG X tg tgd gd us) (hb : DSs X body tb g)
    (hs : ∀ x, foldedSetIterable e X.env x = pure x := by intro _; rfl) : DSt X (.For tg e body [] pos) (fun D σ H => tLock (tFor (iKeys (tVar i)) tgd tb) D σ H ∨ tFor (iKeys (tVar i)) tgd tb D σ H) (gForK i gd g) := by
  refine ⟨ps_or (ps_lock (ps_for hp hc (pi_keys hi) hg.p hb.p hs)) (ps_for hp hc (pi_keys hi) hg.p hb.p hs), fun q σ H env δ out D k ef ko => ?_⟩
  unfold gForK at ef
  split at ef
  · rename_i ks xs hv
    obtain ⟨v, e1, r⟩ := k.vl i _ hv
    cases r with
    | dT rd hl hn ra =>
      rename_i a vs
      have hM : ¬ q.M a := fun z => hn (.inl z)
      have hgo : ∀ l, (a, l) ∉ q.go := fun l z => hn (.inr (.inl ⟨l, z⟩))
      have hd : q.d ≠ some a := fun z => hM (k.dm a z)
      rcases rd with h | ⟨o, h⟩
      · refine .inl ⟨a, _, h, trivial, fun o => ?_⟩
        have sw : Swp H (upd H a (.frz o (.dT (ks.zip vs)))) a (ks.zip vs) := ⟨fun b hb => upd_ne hb, .of h, .inr ⟨o, upd_same⟩⟩
        have k1 : Ok X.K X.mg { q with H0 := upd q.H0 a (.frz o (.dT (ks.zip vs))) } σ (upd H a (.frz o (.dT (ks.zip vs)))) env δ := k.swp sw hn (fun b hb => upd_ne hb) (.inr (by rw [upd_same, upd_same]))
        have old : q.H0 a = none ∨ q.H0 a = some (.dT (ks.zip vs)) := by
          cases z : q.H0 a with
          | none => exact .inl rfl
          | some w =>
            cases ht : isTb w with
            | true =>
              cases w <;> first | (cases ht; done) | skip
              obtain ⟨ps', e⟩ := k.kp.tb a _ z
              rw [h] at e; cases e
            | false =>
              have := k.kp a w z fun z => absurd (noT z ht) hd
              rw [h] at this
              exact .inr this.symm
        refine ⟨.ref a, e1, a, o, rfl, .inr ⟨_, upd_same, forK_core (q := { q with H0 := upd q.H0 a (.frz o (.dT (ks.zip vs))) }) hg hb upd_same hd hl k1 ef ?_⟩⟩
        have bk : ∀ {σ' : St} {H' : Hp} {env' : Ev} {δ' : List Int}, Ok X.K X.mg { q with H0 := upd q.H0 a (.frz o (.dT (ks.zip vs))) } σ' H' env' δ' → H' a = some (.frz o (.dT (ks.zip vs))) ∧ Ok X.K X.mg q σ' (upd H' a (.dT (ks.zip vs))) env' δ' := fun {σ' H' env' δ'} k' => by
          have fz := k'.kp a _ upd_same fun z => absurd (noT z rfl) hd
          refine ⟨fz, ok_back hM hgo k' ⟨fun b hb => upd_ne hb, .inr ⟨o, fz⟩, .of upd_same⟩ ?_⟩
          rw [upd_same]
          exact old
        cases out with
        | nx env' δ' => exact fun σ' H' k' => ⟨(bk k').1, ko σ' _ (bk k').2⟩
        | bk env' δ' => exact fun σ' H' k' => ⟨(bk k').1, ko σ' _ (bk k').2⟩
        | ct env' δ' => exact fun σ' H' k' => ⟨(bk k').1, ko σ' _ (bk k').2⟩
        | rt x δ' =>
          intro w H' kk dd rr
          have fz := kk a _ upd_same fun z => absurd (noT z rfl) hd
          have s2 : Swp H' (upd H' a (.dT (ks.zip vs))) a (ks.zip vs) := ⟨fun b hb => upd_ne hb, .inr ⟨o, fz⟩, .of upd_same⟩
          refine ⟨fz, ko w _ (keep_but kk (fun b hb => (upd_ne hb).symm) (fun b hb => upd_ne hb) (by rw [upd_same]; exact old) (plain_of old fun o e => by cases e; exact ⟨rfl, noC rfl⟩) (fun o e => by rw [fz] at e; cases e; exact ⟨rfl, noC rfl⟩)) (fun b e => ?_) (Rp.swp s2 _ _ rr)⟩
          · rw [upd_ne fun z => hd (by rw [← z]; exact e)]
            exact dd b e
      · have sw : Swp H H a (ks.zip vs) := ⟨fun b hb => rfl, .inr ⟨o, h⟩, .inr ⟨o, h⟩⟩
        have k1 : Ok X.K X.mg { q with H0 := upd q.H0 a (.frz o (.dT (ks.zip vs))) } σ H env δ := k.swp sw hn (fun b hb => upd_ne hb) (.inr (by rw [upd_same, h]))
        have old : q.H0 a = none ∨ q.H0 a = some (.frz o (.dT (ks.zip vs))) := by
          cases z : q.H0 a with
          | none => exact .inl rfl
          | some w =>
            cases ht : isTb w with
            | true =>
              cases w <;> first | (cases ht; done) | skip
              obtain ⟨ps', e⟩ := k.kp.tb a _ z
              rw [h] at e; cases e
            | false =>
              have := k.kp a w z fun z => absurd (noT z ht) hd
              rw [h] at this
              exact .inr this.symm
        refine .inr ⟨.ref a, e1, a, o, rfl, .inr ⟨_, h, forK_core (q := { q with H0 := upd q.H0 a (.frz o (.dT (ks.zip vs))) }) hg hb upd_same hd hl k1 ef ?_⟩⟩
        have bk : ∀ {σ' : St} {H' : Hp} {env' : Ev} {δ' : List Int}, Ok X.K X.mg { q with H0 := upd q.H0 a (.frz o (.dT (ks.zip vs))) } σ' H' env' δ' → Ok X.K X.mg q σ' H' env' δ' := fun {σ' H' env' δ'} k' => by
          have fz := k'.kp a _ upd_same fun z => absurd (noT z rfl) hd
          refine ok_back hM hgo k' ⟨fun b hb => rfl, .inr ⟨o, fz⟩, .inr ⟨o, fz⟩⟩ ?_
          rw [fz]
          exact old
        cases out with
        | nx env' δ' => exact fun σ' H' k' => ko σ' _ (bk k')
        | bk env' δ' => exact fun σ' H' k' => ko σ' _ (bk k')
        | ct env' δ' => exact fun σ' H' k' => ko σ' _ (bk k')
        | rt x δ' =>
          intro w H' kk dd rr
          have fz := kk a _ upd_same fun z => absurd (noT z rfl) hd
          exact ko w _ (keep_but kk (fun b hb => (upd_ne hb).symm) (fun b hb => rfl) (by rw [fz]; exact old) (plain_of old fun o e => by cases e; exact ⟨rfl, noC rfl⟩) (fun o e => by rw [fz] at e; cases e; exact ⟨rfl, noC rfl⟩)) dd rr
  · cases ef
end
end Dl

/-! A dict comprehension whose keys are tuples. -/
namespace Dl
open PySem PySem.Spec L2
open PyProof.Rows hiding St
/-- D[key] = v, the key a tuple -/
theorem store_tup {X : Cx} {pins : List (Addr × Obj)} {σ : St} {H : Hp} {s : Shared} {E : Value → Shared → Prop} {D b : Addr} {rows : List (List Key × V)} {k : List Key} {v : V} {r : Value} {Q : Unit → Shared → Prop} (hu : X.A.units + 1 < cLine) (I : Inv X pins σ H s)
    (hD : H D = some (.dT rows)) (small : rows.length < sizeLine) (hb : H b = some (.tup (k.map kV))) (rv : RelV v r) (fin : ∀ s', Inv X pins σ (upd H D (.dT (putK rows k v))) s' → Q () s') : wpAny (model X.prog X.w) X.A (dictSet D (.ref b) r) Q E s := by
  have ⟨z, nosys, raw, kt, dict⟩ := dt_of I.hok hD
  have few : raw.length ≤ sizeLine := by have := Paired.length kt; omega
  have more := length_putK rows k v
  refine wpAny_dictSet_heap (hsz := few) (show (tupleKind (mixKind X.prog X.w)).room X.A from (by show X.A.units < cLine; omega)) (key_of I.hok hb) dict fun h' d' sb => fin _ ?_
  have ⟨ob, rs, ep, a1, a2, a3, a4, _, a5⟩ := d'
  refine d_write I (by rw [hD]; trivial) sb ⟨ob, a1⟩ ⟨by omega, nosys, _, (kt.put k hb rv).keeps (fun c ys ec => ?_), ob, rs, ep, a1, a2, a3, a4, a5⟩
  have nc : c ≠ D := ne_of ec hD (by intro z; cases z)
  rw [upd_ne nc, ec]
/-- {k: v for .. in ..}, D the new dict -/
def tDcT (wi : TI) (g : TG) (tt : TT) (tk tv : TE) (vs : List Nat) : TE := fun σ H Q => wi σ H fun J H1 => ∀ D, H1 D = none → ∃ W : Nat → Nat → Hp → Prop, (∃ m, W 0 m (upd H1 D (.dT []))) ∧ ∀ i m H, W i m H →
  (J.stop i H ∧ Q (.ref D) H) ∨ (J.go i H ∧ ∃ Nx : Hp → Prop, (∀ H', Nx H' → ∃ m', m' < m ∧ W (i + 1) m' H') ∧ ∀ x H', J.yld i H x H' → g x (wipe σ vs) H' fun σ2 H2 => wipe σ2 vs = wipe σ vs ∧ tt σ2 H2 fun b H3 =>
    if b = true then tk σ2 H3 fun y H4 => tv σ2 H4 fun z H5 => ∃ rows k b, y = .ref b ∧ H5 b = some (.tup (k.map kV)) ∧ H5 D = some (.dT rows) ∧ rows.length < sizeLine ∧ Nx (upd H5 D (.dT (putK rows k z))) else Nx H3)
section
variable {X : Cx}
theorem pe_dcT {kx vx tg iter : Expr} {ifs : List Expr} {scope : Scope} {own : List (Str × Nat)} {pos : Pos} {wi : TI} {g : TG} {tt : TT} {tk tv : TE} (hu : X.A.units + 1 < cLine) (hc : X.calm = true) (hN : X.N.Nodup) (hi : PI X tg iter wi) (ok : BlkOk X.N X.env.scope scope own)
    (hg : ∀ (u : Shared) (G : Hp) (C : Addr) (cl : List (Str × Addr)) (fp : List Addr), PG (X.blk u G scope (compEnvC scope cl C X.env) fp) tg g)
    (ht : ∀ (u : Shared) (G : Hp) (C : Addr) (cl : List (Str × Addr)) (fp : List Addr), PTs (X.blk u G scope (compEnvC scope cl C X.env) fp) ifs tt)
    (hk : ∀ (u : Shared) (G : Hp) (C : Addr) (cl : List (Str × Addr)) (fp : List Addr), PE (X.blk u G scope (compEnvC scope cl C X.env) fp) kx tk)
    (hv : ∀ (u : Shared) (G : Hp) (C : Addr) (cl : List (Str × Addr)) (fp : List Addr), PE (X.blk u G scope (compEnvC scope cl C X.env) fp) vx tv)
    (hs : ∀ x, foldedSetIterable iter X.env x = pure x := by intro _; rfl) : PE X (.DictComp kx vx [⟨tg, iter, ifs, 0⟩] scope pos) (tDcT wi g tt tk tv (own.map (·.2))) := by
  refine ⟨fun pins s0 σ H Q I want => ?_⟩
  rw [arm_eval_DictComp]
  have closed : ∀ y ∈ scope.names, y.2 = .free → ∃ c, X.env.cells.lookup y.1 = some c := fun y hy e => (ok.free y hy e).elim (fun z => I.ok.has _ (.inl z)) fun z => I.ok.has _ (.inr z)
  refine wpAny_comprehension_free (use := none) rfl hs (closure_ok closed) ok.kind (fun y hy e => by rw [ok.uniq y hy, e]) ?_
  refine thn (hi.run pins s0 σ H _ I want) fun _ _ hx => thn hx fun _ sA got => ?_
  obtain ⟨it, fp, tn, J, HA, rfl, IA, T, stA, fA, want⟩ := got
  refine wpAny_newObj_type (newEnv_comp ?_)
  generalize eD : sA.heap.objs.size = D
  have hDn : HA D = none := IA.hok.fresh (by omega)
  have ⟨W, ⟨m0, w0⟩, turn⟩ := want D hDn
  generalize eB : ({ sA with heap := sA.heap.push { cls := .type "dict", data := .dict #[] } } : Shared) = sB
  have IB : Inv X pins σ (upd HA D (.dT [])) sB := by
    subst eB
    subst eD
    exact IA.laid (t' := sA.toks) (fun _ _ e => Heap.get?_push_of_some _ e) (Nat.le_refl _) (dt_empty sA.heap IA.big)
  have hB : sB.heap = sA.heap.push { cls := .type "dict", data := .dict #[] } := by subst eB; rfl
  have fB : ∀ b ∈ fp, FpOk X pins (upd HA D (.dT [])) b ∧ b < sB.heap.objs.size := fun b hb => by
    have ⟨_, e, _⟩ := T.obj _ _ stA b hb
    have lt := Heap.lt_size e
    have nb : b ≠ D := by rw [← eD]; exact Nat.ne_of_lt lt
    refine ⟨⟨by rw [upd_ne nb]; exact (fA b hb).1, (fA b hb).2⟩, ?_⟩
    rw [hB, Heap.size_push]
    exact Nat.lt.step lt
  have stB : tn 0 sB.heap := T.keep _ _ _ stA fun _ _ _ e => by rw [hB]; exact Heap.get?_push_of_some _ e
  have IC := block_start IB ok hN fB
  show codeAny _ _ (.compStart (.DictComp kx vx [⟨tg, iter, ifs, 0⟩] scope pos) 0 (.ref it) (.ref D) (compEnvC scope (cellsFrom (sB.heap.objs.size + 1) scope.names (cloFrom X.env.cells scope.names [])) sB.heap.objs.size X.env)) (compPost (model X.prog X.w) X.A X.xe none (EP X pins σ Q) (.ref D) sB.heap.objs.size) { sB with heap := pushCells (sB.heap.push { cls := .type "dict", data := .dict #[] }) scope.names }
  generalize eN : cellsFrom (sB.heap.objs.size + 1) scope.names (cloFrom X.env.cells scope.names []) = nc at IC ⊢
  have pg := hg sB (upd HA D (.dT [])) sB.heap.objs.size nc fp
  have pt := ht sB (upd HA D (.dT [])) sB.heap.objs.size nc fp
  have pk := hk sB (upd HA D (.dT [])) sB.heap.objs.size nc fp
  have pv := hv sB (upd HA D (.dT [])) sB.heap.objs.size nc fp
  generalize eE : compEnvC scope nc sB.heap.objs.size X.env = en at IC pg pt pk pv ⊢
  have eL : en.locals = sB.heap.objs.size := by subst eE; rfl
  have off : ∀ b ∈ fp, upd HA D (.dT []) b = none := fun b hb => (fB b hb).1.1
  generalize eH : upd HA D (.dT []) = HB at IB IC pg pt pk pv w0 off fB
  generalize eC : ({ sB with heap := pushCells (sB.heap.push { cls := .type "dict", data := .dict #[] }) scope.names } : Shared) = sC at IC ⊢
  have stC : tn 0 sC.heap := T.keep _ _ _ stB fun _ _ _ e => by
    subst eC
    exact pushCells_keeps _ _ _ _ (Heap.get?_push_of_some _ e)
  have still : ∀ {σ' : L2.St} {G : Hp} {u : Shared}, Inv (X.blk sB HB scope en fp) [] σ' G u → (∀ b ∈ fp, G b = none) → ∀ b ∈ fp, FpOk (X.blk sB HB scope en fp) [] G b := fun {σ' G u} I' no b hb =>
    ⟨no b hb, (I'.ok.exf b hb).1, I'.ok.exfs b hb, .inl hb, fun x c e => (I'.ok.exf b hb).2 x c e, fun p hp => by cases hp⟩
  have loop : codeAny (model X.prog X.w) X.A (.compLoop (.DictComp kx vx [⟨tg, iter, ifs, 0⟩] scope pos) 0 (.ref it) (.ref D) en) (compPost (model X.prog X.w) X.A X.xe none (EP X pins σ Q) (.ref D) sB.heap.objs.size) sC := by
    refine compLoop_anyD (fun n u => ∃ i G, Inv (X.blk sB HB scope en fp) [] (wipe σ (own.map (·.2))) G u ∧ tn i u.heap ∧ (∀ b ∈ fp, G b = none) ∧ W i n G) (fun n u ⟨i, G, IG, sG, nG, wG⟩ => ?_) m0 ⟨0, HB, IC, stC, off, w0⟩
    rcases turn i n G wG with ⟨stop, fin⟩ | ⟨go, Nx, next, one⟩
    · refine thnF (T.done (X.blk sB HB scope en fp) rfl rfl rfl hc i [] u _ G (fun _ _ => False) IG (still IG nG) sG stop) fun r v ⟨er, IV⟩ => ?_
      subst er
      have back : Inv X pins σ G v := IB.call' (ch := fp) IV.os IV.base IV.hok IV.bare fun b hb => by
        have ⟨⟨_, c1, c2, c3, c4, c5⟩, _⟩ := fB b hb
        exact ⟨c3, c1, c4, c5⟩
      have ⟨m, hm, _⟩ := IV.loc
      have hm : v.heap.Ns en.locals m := hm
      have nl : G en.locals = none := IV.free
      rw [eL] at hm nl
      have ⟨g0, g1, g2, g3, g4, g5⟩ := IB.fpOk (Nat.le_refl sB.heap.objs.size) nl
      exact ⟨m, hm, fun h'' sb => ⟨.ref D, G, back.turned (t' := v.toks) (fun b o hb e => (sb.2 b hb).trans e) g0 g1 g3 g4 g5, rfl, fin⟩⟩
    · refine thnF (T.item (X.blk sB HB scope en fp) rfl rfl rfl hc i [] u _ G (fun _ _ => False) IG (still IG nG) sG go) fun r v ⟨val, er, hv'⟩ => ?_
      subst er
      refine thnF hv' fun _ v1 ⟨x, G1, I1, r1, y1, s1, n1⟩ => ?_
      have P1 := I1.pinned (still I1 n1) (T.obj _ _ s1)
      refine thnF (pg.run _ v1 _ G1 x val _ P1 r1 (one x G1 y1)) fun _ v2 ⟨σ2, G2, I2, w2, q2⟩ => ?_
      refine thnF (pt.run _ v2 σ2 G2 _ I2 q2) fun yes v3 ⟨G3, I3, q3⟩ => ?_
      have close : ∀ {u' : Shared} {G' : Hp}, Inv (X.blk sB HB scope en fp) ([] ++ pinsAt fp v1.heap) σ2 G' u' → Nx G' → ∃ m, m < n ∧ ∃ i G, Inv (X.blk sB HB scope en fp) [] (wipe σ (own.map (·.2))) G u' ∧ tn i u'.heap ∧ (∀ b ∈ fp, G b = none) ∧ W i m G := fun {u' G'} I' nx => by
        have ⟨m, lt, w'⟩ := next G' nx
        have kept : ∀ b ∈ fp, ∀ o, v1.heap.get? b = some o → u'.heap.get? b = some o ∧ G' b = none := fun b hb o e => by
          have z := I'.pin (b, o) (List.mem_append_right _ (List.mem_append_right _ (mem_pinsAt hb e)))
          exact ⟨z.1, z.2.1⟩
        have same : (wipe σ (own.map (·.2))).length = σ2.length := by rw [← w2, wipe_length]
        refine ⟨m, lt, i + 1, G', (I'.unpinned (pins := [])).weak same (fun j c e => ?_), T.keep _ _ _ s1 fun b hb o e => (kept b hb o e).1, fun b hb => ?_, w'⟩
        · rw [← w2] at e
          exact (wipe_some e).1
        · have ⟨o, e, _⟩ := T.obj _ _ s1 b hb
          exact (kept b hb o e).2
      cases yes with
      | false =>
        simp only [Bool.false_eq_true, if_false] at q3 ⊢
        exact close I3 q3
      | true =>
        simp only [if_true] at q3 ⊢
        refine thnF (pk.run _ v3 σ2 G3 _ I3 q3) fun key v4 ⟨yk, G4, I4, r4, q4⟩ => ?_
        refine thnF (pv.run _ v4 σ2 G4 _ I4 q4) fun val2 v5 ⟨yv, G5, I5, r5, rows, k, b, ek, hb, hD5, small, nx⟩ => ?_
        subst ek
        cases (show key = Value.ref b from r4)
        exact store_tup (X := X.blk sB HB scope en fp) hu I5 hD5 small hb r5 fun v6 I6 => close I6 nx
  exact codeAny_compStart_dict loop (T.self X.A 0 _ _ _ stC loop)
end
end Dl

namespace Dl
open PySem PySem.Spec L2
/-! {k: v for .. in ..}: keys tuples, values flat. -/
def flatD : Dat → Bool
  | .non => true
  | .bl _ => true
  | .int _ => true
  | .str _ => true
  | _ => false
theorem Rp.flat {K : PySem.W.Frag} {mg : Str → Option Value} {d d' : Option Addr} {N N' : Addr → Prop} {H H' : Hp} {v : V} {x : Dat} (h : flatD x = true) (r : Rp K mg d N H v x) : Rp K mg d' N' H' v x := by
  cases x <;> first | (cases h; done) | skip
  · cases r; exact .non
  · cases r; exact .bl _
  · cases r; exact .int _
  · cases r; exact .str _
def dcD (gd : GT) (ft : ET) (fk fv : E) (env : Ev) : List Dat → List (List Key) × List Dat → List Int → Option ((List (List Key) × List Dat) × List Int)
  | [], acc, δ => some (acc, δ)
  | x :: xs, acc, δ => (gd x env).bind fun e1 => (ft e1 δ).bind fun r => if r.1 = true then (fk e1 r.2).bind fun y => (fv e1 y.2).bind fun z => (keyD y.1).bind fun k => if flatD z.1 = true then dcD gd ft fk fv env xs (putA acc.1 acc.2 k z.1) z.2 else none else dcD gd ft fk fv env xs acc r.2
def eDc (fi : EA) (gd : GT) (ft : ET) (fk fv : E) (vs : List Nat) : E := fun env δ => (fi env δ).bind fun r =>
  if (decide (r.1.length < 1000000) && noOwn env vs) = true then (dcD gd ft fk fv (wipeE env vs) r.1 ([], []) r.2).map fun u => (.dT u.1.1 u.1.2, u.2) else none
theorem putA_len {α : Type} {ks : List (List Key)} {xs : List α} {k : List Key} {x : α} : (putA ks xs k x).1.length ≤ ks.length + 1 := by
  unfold putA
  split
  · simp
  · simp
theorem rs_dc {K : PySem.W.Frag} {mg : Str → Option Value} {wi : TI} {fi : EA} {tgd : TG} {gd : GT} {ts vs : List Nat} {tt : TT} {ft : ET} {tk tv : TE} {fk fv : E} (hi : RI K mg wi fi) (hg : RG K mg tgd gd ts) (ht : RT K mg tt ft) (hk : RE K mg tk fk) (hv : RS K mg tv fv) (hs : ∀ j ∈ ts, j ∈ vs) :
    RS K mg (tDcT wi tgd tt tk tv vs) (eDc fi gd ft fk fv vs) := by
  intro q σ H env δ out δ' Q k ef kq
  unfold eDc at ef
  cases e1 : fi env δ with
  | none => rw [e1] at ef; cases ef
  | some r1 =>
    obtain ⟨xs, δ1⟩ := r1
    rw [e1] at ef
    simp only [Option.bind_some] at ef
    split at ef
    rotate_left
    · cases ef
    rename_i hc
    rw [Bool.and_eq_true, decide_eq_true_eq] at hc
    obtain ⟨hz, hno⟩ := hc
    cases e2 : dcD gd ft fk fv (wipeE env vs) xs ([], []) δ1 with
    | none => rw [e2] at ef; cases ef
    | some res =>
      obtain ⟨fin, δe⟩ := res
      rw [e2] at ef
      cases ef
      refine hi q σ H env δ xs δ1 _ k e1 fun J H1 gv gx k1 S o1 D hD => ?_
      have hd : q.d ≠ some D := fun z => by
        have := o1.dc D z
        rw [hD] at this; cases this
      refine ⟨fun i m H' => m = xs.length - i ∧ i ≤ xs.length ∧ Keep (isD q.d) H1 H' ∧ ∃ acc ws δi, DiceAt q.d H' δi ∧ H' D = some (.dT (acc.1.zip ws)) ∧ acc.1.length = ws.length ∧ (∀ d N G, RpA K mg d N G ws acc.2) ∧ acc.1.length ≤ i ∧ dcD gd ft fk fv (wipeE env vs) (xs.drop i) acc δi = some (fin, δe),
        ⟨xs.length, by simp, Nat.zero_le _, .fresh hD, ([], []), [], δ1, fun a e => by rw [upd_ne fun z => hd (by rw [← z]; exact e)]; exact o1.dc a e, upd_same, rfl, fun _ _ _ => .nil, Nat.zero_le _, e2⟩, ?_⟩
      rintro i m H2 ⟨rfl, hile, kk, acc, ws, δi, dd, hD2, hlen, hfl, hal, el⟩
      have k2 := o1.step kk dd
      have gh2 := (Ok.popGh S.len k2).2
      by_cases hlt : i < xs.length
      · rw [List.drop_eq_getElem_cons hlt] at el
        refine .inr ⟨S.go _ _ i gh2 hlt, fun H' => Keep (isD q.d) H1 H' ∧ ∃ acc ws δi, DiceAt q.d H' δi ∧ H' D = some (.dT (acc.1.zip ws)) ∧ acc.1.length = ws.length ∧ (∀ d N G, RpA K mg d N G ws acc.2) ∧ acc.1.length ≤ i + 1 ∧ dcD gd ft fk fv (wipeE env vs) (xs.drop (i + 1)) acc δi = some (fin, δe),
          fun H' h => ⟨xs.length - (i + 1), by omega, rfl, hlt, h.1, h.2⟩, fun v H3 y => ?_⟩
        obtain ⟨s, ry⟩ := S.yld _ _ i v H3 gh2 y
        have rx := ry _ (List.getElem?_eq_getElem hlt)
        unfold dcD at el
        cases e3 : gd xs[i] (wipeE env vs) with
        | none => rw [e3] at el; cases el
        | some env1 =>
          rw [e3] at el
          simp only [Option.bind_some] at el
          have k3 : Ok K mg (q.withGh gv gx) σ H3 env δi := k2.grow s
          have k3w := k3.wiped vs
          have rx' : Rp K mg q.d (NN (q.withGh gv gx) (wipe σ vs) (wipeE env vs)) H3 v xs[i] := by
            refine Rp.keep .refl (fun b z => .inl ?_) _ _ rx
            rcases z with z | z | ⟨j, l', z1, z2⟩
            · exact .inl z
            · exact .inr (.inl z)
            · rw [get_wipeE] at z1
              rw [get_wipe] at z2
              by_cases hj : j ∈ vs
              · rw [if_pos hj] at z1
                split at z1 <;> cases z1
              · rw [if_neg hj] at z1 z2
                exact .inr (.inr ⟨j, l', z1, z2⟩)
          refine hg (q.withGh gv gx) (wipe σ vs) H3 (wipeE env vs) δi v xs[i] env1 _ k3w rx' e3 fun σ2 a1 a2 k4 => ⟨wipe_ag a1 hs, ?_⟩
          cases e4 : ft env1 δi with
          | none => rw [e4] at el; cases el
          | some r3 =>
            obtain ⟨bb, δ3⟩ := r3
            rw [e4] at el
            refine ht _ σ2 H3 env1 δi bb δ3 _ k4 e4 fun H4 k5 o5 => ?_
            have hD4 : H4 D = some (.dT (acc.1.zip ws)) := k5 D _ (s D _ hD2) fun z => absurd (noT z rfl) hd
            cases bb with
            | false =>
              rw [if_neg Bool.false_ne_true]
              simp only [Option.bind_some, Bool.false_eq_true, if_false] at el
              exact ⟨kk.trans ((Keep.of_same s).trans k5), acc, ws, δ3, o5.dc, hD4, hlen, hfl, by omega, el⟩
            | true =>
              rw [if_pos rfl]
              simp only [Option.bind_some, if_true] at el
              cases e5 : fk env1 δ3 with
              | none => rw [e5] at el; cases el
              | some r4 =>
                obtain ⟨yk, δ4⟩ := r4
                rw [e5] at el
                simp only [Option.bind_some] at el
                cases e6 : fv env1 δ4 with
                | none => rw [e6] at el; cases el
                | some r5 =>
                  obtain ⟨yv, δ5⟩ := r5
                  rw [e6] at el
                  simp only [Option.bind_some] at el
                  cases e7 : keyD yk with
                  | none => rw [e7] at el; cases el
                  | some key =>
                    rw [e7] at el
                    simp only [Option.bind_some] at el
                    split at el
                    rotate_left
                    · cases el
                    rename_i hf
                    refine hk _ σ2 H4 env1 δ3 yk δ4 _ o5 e5 fun w H5 k6 o6 r6 => ?_
                    refine hv _ σ2 H5 env1 δ4 yv δ5 _ o6 e6 fun w2 H6 k7 o7 r7 => ?_
                    obtain ⟨b, rfl, hb⟩ := RpB.keyT (r6.keep o5.dn k7 fun b z => .inl z) e7
                    have hD6 : H6 D = some (.dT (acc.1.zip ws)) := k7 D _ (k6 D _ hD4 fun z => absurd (noT z rfl) hd) fun z => absurd (noT z rfl) hd
                    have r7 : ∀ d N G, Rp K mg d N G w2 yv := fun d N G => Rp.flat hf r7
                    obtain ⟨p1, p2⟩ := putK_zip (k := key) (v := w2) hlen
                    have p3 : (putA acc.1 ws key w2).1 = (putA acc.1 acc.2 key yv).1 := (putA_rel (K := K) (mg := mg) (d := none) (N := fun _ => False) (H := H6) (k := key) (ks := acc.1) (r7 _ _ _) (hfl _ _ _)).1
                    refine ⟨_, key, b, rfl, hb, hD6, ?_, ?_, putA acc.1 acc.2 key yv, (putA acc.1 ws key w2).2, δ5, ?_, ?_, ?_, fun d N G => (putA_rel (r7 d N G) (hfl d N G)).2, ?_, el⟩
                    · rw [List.length_zip]
                      exact Nat.lt_of_le_of_lt (Nat.min_le_left _ _) (lt_line (by omega))
                    · exact (kk.trans ((Keep.of_same s).trans (k5.trans (k6.trans k7)))).off hD hD6 rfl rfl
                    · intro a e
                      rw [upd_ne fun z => hd (by rw [← z]; exact e)]
                      exact o7.dc a e
                    · rw [upd_same, p1, p3]
                    · rw [← p3]; exact p2
                    · have := putA_len (ks := acc.1) (xs := acc.2) (k := key) (x := yv)
                      omega
      · have e' : i = xs.length := by omega
        subst e'
        rw [List.drop_length] at el
        cases el
        refine .inl ⟨S.stop _ _ gh2, ?_⟩
        have k3 := (Ok.popGh S.len k2).1
        exact kq _ H2 (k1.trans kk) k3 (.dT (.of hD2) hlen (fun z => o1.nn (b := D) z hD) (hfl _ _ _))
section
variable {X : Cx} {kx vx iter tg : Expr} {ifs : List Expr} {te : TE} {f fk fv : E} {ft : ET} {fi : EA} {gd : GT} {tgd : TG} {tt : TT} {tk tv : TE} {wi : TI} {ts : List Nat} {pos : Pos}
theorem d_dcT {kk : Nat} {scope : Scope} {own : List (Str × Nat)} (hr : Room kk X.A) (hc : X.calm = true) (hN : X.N.Nodup) (hi : DI X tg iter wi fi) (ok : BlkOk X.N X.env.scope scope own)
    (hg : ∀ (u : Shared) (G : Hp) (C : Addr) (cl : List (Str × Addr)) (fp : List Addr), DG (X.blk u G scope (compEnvC scope cl C X.env) fp) tg tgd gd ts)
    (ht : ∀ (u : Shared) (G : Hp) (C : Addr) (cl : List (Str × Addr)) (fp : List Addr), DTs (X.blk u G scope (compEnvC scope cl C X.env) fp) ifs tt ft)
    (hk : ∀ (u : Shared) (G : Hp) (C : Addr) (cl : List (Str × Addr)) (fp : List Addr), DE (X.blk u G scope (compEnvC scope cl C X.env) fp) kx tk fk)
    (hv : ∀ (u : Shared) (G : Hp) (C : Addr) (cl : List (Str × Addr)) (fp : List Addr), DS (X.blk u G scope (compEnvC scope cl C X.env) fp) vx tv fv)
    (hts : ∀ j ∈ ts, j ∈ own.map (·.2) := by decide) (hs : ∀ x, foldedSetIterable iter X.env x = pure x := by intro _; rfl) :
    DS X (.DictComp kx vx [⟨tg, iter, ifs, 0⟩] scope pos) (tDcT wi tgd tt tk tv (own.map (·.2))) (eDc fi gd ft fk fv (own.map (·.2))) :=
  ⟨pe_dcT (u1 hr) hc hN hi.p ok (fun u G C cl fp => (hg u G C cl fp).p) (fun u G C cl fp => (ht u G C cl fp).p) (fun u G C cl fp => (hk u G C cl fp).p) (fun u G C cl fp => (hv u G C cl fp).p) hs,
    rs_dc hi.r (hg X.s_0 X.H_0 0 [] []).r (ht X.s_0 X.H_0 0 [] []).r (hk X.s_0 X.H_0 0 [] []).r (hv X.s_0 X.H_0 0 [] []).r hts⟩
end
end Dl

/-! sorted of pairs, the place of one in a list, the module's constants. -/
namespace Dl
open PySem PySem.Spec L2
/-! ### sorted -/
abbrev lexB := SrtO.lexB
def insP (p : Int × Int) : List (Int × Int) → List (Int × Int)
  | [] => [p]
  | q :: r => if lexB q p = true then q :: insP p r else p :: q :: r
def sortP : List (Int × Int) → List (Int × Int)
  | [] => []
  | p :: r => insP p (sortP r)
theorem insP_perm (p : Int × Int) : ∀ l, (insP p l).Perm (p :: l)
  | [] => .refl _
  | q :: r => by
    unfold insP
    split
    · exact ((insP_perm p r).cons q).trans (.swap p q r)
    · exact .refl _
theorem sortP_perm : ∀ l, (sortP l).Perm l
  | [] => .refl _
  | p :: r => (insP_perm p _).trans ((sortP_perm r).cons p)
theorem lex_no {p q : Int × Int} : lexB p q = false ↔ (q.1 < p.1 ∨ (q.1 = p.1 ∧ q.2 ≤ p.2)) := by
  rw [show (lexB p q = false) = (SrtO.lexB p q = false) from rfl, SrtO.lexB_no]
  omega
theorem lex_yes {p q : Int × Int} : lexB p q = true ↔ (p.1 < q.1 ∨ (p.1 = q.1 ∧ p.2 < q.2)) := SrtO.lexB_iff
theorem lex_tr {p q r : Int × Int} (h1 : lexB q p = false) (h2 : lexB r q = false) : lexB r p = false := by
  rw [lex_no] at *
  omega
theorem insP_srt (p : Int × Int) : ∀ l, l.Pairwise (fun x y => lexB y x = false) → (insP p l).Pairwise fun x y => lexB y x = false
  | [], _ => List.pairwise_singleton _ _
  | q :: r, h => by
    have ⟨h1, h2⟩ := List.pairwise_cons.mp h
    unfold insP
    split
    · rename_i hq
      refine List.pairwise_cons.mpr ⟨fun z hz => ?_, insP_srt p r h2⟩
      rcases List.mem_cons.mp ((insP_perm p r).mem_iff.mp hz) with rfl | hz
      · rw [lex_no]
        rw [lex_yes] at hq
        omega
      · exact h1 z hz
    · rename_i hq
      have hq : lexB q p = false := by cases e : lexB q p <;> simp_all
      refine List.pairwise_cons.mpr ⟨fun z hz => ?_, h⟩
      rcases List.mem_cons.mp hz with rfl | hz
      · exact hq
      · exact lex_tr hq (h1 z hz)
theorem sortP_srt : ∀ l, (sortP l).Pairwise fun x y => lexB y x = false
  | [] => .nil
  | p :: r => insP_srt p _ (sortP_srt r)
theorem sortP_uniq {l m : List (Int × Int)} (hp : l.Perm m) (hs : l.Pairwise fun x y => lexB y x = false) : l = sortP m :=
  List.Perm.eq_of_pairwise (le := fun x y => lexB y x = false) (fun a b _ _ h1 h2 => by
    rw [lex_no] at h1 h2
    exact Prod.ext (by omega) (by omega)) hs (sortP_srt m) (hp.trans (sortP_perm m).symm)
def toP : List Dat → Option (List (Int × Int))
  | [] => some []
  | .tup [.int i, .int j] :: xs => (toP xs).map fun ps => (i, j) :: ps
  | _ => none
theorem toP_pD : ∀ l : List (Int × Int), toP (l.map pD) = some l
  | [] => rfl
  | p :: l => by
    show (toP (l.map pD)).map (fun ps => (p.1, p.2) :: ps) = _
    rw [toP_pD l]
    rfl
theorem of_toP : ∀ {xs : List Dat} {ps : List (Int × Int)}, toP xs = some ps → xs = ps.map pD
  | [], _, e => by cases e; rfl
  | .tup [.int i, .int j] :: xs, _, e => by
    have e : ((toP xs).map fun ps => (i, j) :: ps) = some _ := e
    cases e1 : toP xs with
    | none => rw [e1] at e; cases e
    | some ps =>
      rw [e1] at e
      cases e
      rw [of_toP e1]
      rfl
/-- the pair at a value -/
def prAt (H : Hp) : V → Int × Int
  | .ref t => match H t with
    | some (.tup [.int i, .int j]) => (i, j)
    | _ => (0, 0)
  | _ => (0, 0)
section
variable {K : PySem.W.Frag} {mg : Str → Option Value}
theorem rp_pair {d : Option Addr} {N : Addr → Prop} {H : Hp} {v : V} {p : Int × Int} (r : Rp K mg d N H v (pD p)) : ∃ t, v = .ref t ∧ H t = some (.tup [.int p.1, .int p.2]) ∧ prAt H v = p := by
  obtain ⟨b, rfl, h⟩ := Rp.keyT (k := [.inl p.1, .inl p.2]) r rfl
  have h : H b = some (.tup [.int p.1, .int p.2]) := h
  exact ⟨b, rfl, h, by simp [prAt, h]⟩
theorem rpA_pairs {d : Option Addr} {N : Addr → Prop} {H : Hp} : ∀ {vs : List V} {ps : List (Int × Int)}, RpA K mg d N H vs (ps.map pD) → (∀ x ∈ vs, ∃ t, x = .ref t ∧ H t = some (.tup [.int (prAt H x).1, .int (prAt H x).2])) ∧ vs.map (prAt H) = ps
  | [], [], _ => ⟨fun _ h => (nomatch h), rfl⟩
  | _, p :: ps, .cons r1 r2 => by
    obtain ⟨t, e, h, hp⟩ := rp_pair r1
    obtain ⟨h3, h4⟩ := rpA_pairs r2
    refine ⟨fun x hx => ?_, by rw [List.map_cons, hp, h4]⟩
    rcases List.mem_cons.mp hx with rfl | hx
    · rw [hp]
      exact ⟨t, e, h⟩
    · exact h3 x hx
theorem rpA_of_pairs {d : Option Addr} {N : Addr → Prop} {H : Hp} (k : V → Int × Int) : ∀ {vs : List V}, (∀ x ∈ vs, ∃ t, x = .ref t ∧ H t = some (.tup [.int (k x).1, .int (k x).2])) → RpA K mg d N H vs ((vs.map k).map pD)
  | [], _ => .nil
  | v :: vs, h => by
    obtain ⟨t, e, h1⟩ := h v List.mem_cons_self
    refine .cons ?_ (rpA_of_pairs k fun x hx => h x (List.mem_cons_of_mem _ hx))
    subst e
    exact .tup h1 (.cons (.int _) (.cons (.int _) .nil))
def dSorted : List Dat → Option Dat
  | [.lst xs] => (toP xs).map fun ps => .lst ((sortP ps).map pD)
  | _ => none
theorem ref_sorted : RefC K mg (rSortedPO K) dSorted := by
  intro d N H vs xs z Q hd hN r e kq
  match xs, vs, r with
  | [x], [v], ⟨r, _⟩ =>
    cases x <;> first | (cases e; done) | skip
    rename_i xs
    have e : ((toP xs).map fun ps => Dat.lst ((sortP ps).map pD)) = some z := e
    cases e1 : toP xs with
    | none => rw [e1] at e; cases e
    | some ps =>
      rw [e1] at e
      cases e
      obtain ⟨a, ws, rfl, h2, _, h5⟩ := r
      rw [of_toP e1] at h5
      obtain ⟨h6, h7⟩ := rpA_pairs h5
      refine ⟨a, ws, prAt H, rfl, .of h2, h6, fun ys p hs hb hp => ?_⟩
      have s := same_fresh (o := .lst ys) hp
      have hy : ∀ y ∈ ys, ∃ t, y = .ref t ∧ H t = some (.tup [.int (prAt H y).1, .int (prAt H y).2]) := fun y hy => h6 y (hb.perm.mem_iff.mp hy)
      have he : ys.map (prAt H) = sortP ps := by
        rw [← h7]
        exact sortP_uniq (hb.perm.map _) (List.pairwise_map.mpr hs)
      have ra : RpA K mg d N H ys ((sortP ps).map pD) := by
        rw [← he]
        exact rpA_of_pairs (prAt H) hy
      exact kq _ _ s (.lst upd_same (fun z => hN _ z hp) (RpA.keep (N := N) (.of_same s) (fun b z => .inl z) _ _ ra))
  | [], _, _ => cases e
  | x :: _ :: _, _, _ => cases x <;> cases e
/-! ### the module's constants -/
def GlI (mg : Str → Option Value) (x : Str) (i : Int) : Prop := ∃ t, mg x = some (.int i t)
def GlT (K : PySem.W.Frag) (mg : Str → Option Value) (x : Str) (a : Addr) (y : Dat) : Prop := mg x = some (.ref a) ∧ ∀ d N H, Rp K mg d N H (.ref a) y
theorem d_gi {X : Cx} {x : Str} {i : Int} {pos : Pos} (h : GlI X.mg x i) (hg : Gl X x) (hd : (x == ("__debug__" : Str)) = false := by decide) : DS X (.Name x pos) (tC (.int i)) (eC (.int i)) := by
  obtain ⟨t, h⟩ := h
  exact d_glob hg h ⟨t, rfl⟩ (fun _ _ _ => .int i) hd
theorem d_gT {X : Cx} {x : Str} {a : Addr} {y : Dat} {pos : Pos} (h : GlT X.K X.mg x a y) (hg : Gl X x) (hd : (x == ("__debug__" : Str)) = false := by decide) : DS X (.Name x pos) (tC (.ref a)) (eC y) :=
  d_glob hg h.1 rfl h.2 hd
end
/-! ### l.index(x) -/
section
variable {X : Cx} {a b : Expr} {ta tb : TE} {f g : E} {pos : Pos} {K : PySem.W.Frag} {mg : Str → Option Value}
def ixP (p : Int × Int) : List (Int × Int) → Option Nat
  | [] => none
  | q :: r => if q = p then some 0 else (ixP p r).map (· + 1)
theorem ixP_some {p : Int × Int} : ∀ {l : List (Int × Int)} {j : Nat}, ixP p l = some j → l[j]? = some p ∧ ∀ m, m < j → ∀ q, l[m]? = some q → q ≠ p
  | [], _, e => by cases e
  | q :: r, j, e => by
    unfold ixP at e
    split at e
    · rename_i h
      cases e
      exact ⟨by rw [h]; rfl, fun m hm => absurd hm (Nat.not_lt_zero _)⟩
    · rename_i h
      cases e1 : ixP p r with
      | none => rw [e1] at e; cases e
      | some i =>
        rw [e1] at e
        cases e
        obtain ⟨h1, h2⟩ := ixP_some e1
        refine ⟨by simpa using h1, fun m hm q' hq => ?_⟩
        cases m with
        | zero => cases hq; exact h
        | succ m => exact h2 m (Nat.lt_of_succ_lt_succ hm) q' (by simpa using hq)
def dIndexP : Dat → Dat → Option Dat
  | .lst xs, .tup [.int i, .int j] => (toP xs).bind fun ps => (ixP (i, j) ps).map fun n => .int (n : Nat)
  | _, _ => none
theorem d_indexP {apos : Pos} {kk : Nat} (hr : Room kk X.A) (hu : X.A.units + 65 < cLine) (ha : DE X a ta f) (hb : DE X b tb g) (h : ∀ {to t}, PE X a to → PA X [b] t → PE X (.Call (.Attribute a "index" apos) [b] [] pos) (tBM X.K "list" (rIndexD X.K) to t)) (hs : starEach [b] X.env = (false, eval b X.env) :: starEach [] X.env := by rfl) :
    DS X (.Call (.Attribute a "index" apos) [b] [] pos) (tBM X.K "list" (rIndexD X.K) ta (tCons tb tNil)) (eOp dIndexP f g) := by
  refine ⟨h ha.p (pa_cons hb.p pa_nil hs), fun q σ H env δ z δ' Q k ef kq => ?_⟩
  unfold eOp at ef
  cases e1 : f env δ with
  | none => rw [e1] at ef; cases ef
  | some r1 =>
    obtain ⟨x, δ1⟩ := r1
    rw [e1] at ef
    cases e2 : g env δ1 with
    | none => simp [e2] at ef
    | some r2 =>
      obtain ⟨y, δ2⟩ := r2
      simp only [Option.bind_some, e2] at ef
      cases e3 : dIndexP x y with
      | none => rw [e3] at ef; cases ef
      | some w =>
        rw [e3] at ef
        cases ef
        unfold dIndexP at e3
        split at e3
        · rename_i xs i j
          cases e4 : toP xs with
          | none => rw [e4] at e3; cases e3
          | some ps =>
            rw [e4] at e3
            simp only [Option.bind_some] at e3
            cases e5 : ixP (i, j) ps with
            | none => rw [e5] at e3; cases e3
            | some n =>
              rw [e5] at e3
              cases e3
              obtain ⟨h1, h2⟩ := ixP_some e5
              have ex := of_toP e4
              subst ex
              refine ha.r q σ H env δ _ δ1 _ k e1 fun v H1 k1 o1 r1 => ?_
              obtain ⟨aa, vs, rfl, g2, gd, gr⟩ := r1
              refine ⟨.inl ⟨rfl, vs, .of g2⟩, hb.r q σ H1 env δ1 _ _ _ o1 e2 fun w H2 k2 o2 r2 => ?_⟩
              have g2' : H2 aa = some (.lst vs) := k2 aa _ g2 fun z => absurd (noT z rfl) gd
              have gr' := RpA.keep (k2.weak o1.dn) (fun b z => Or.inl z) _ _ gr
              refine ⟨aa, w, prP (i, j), ps.map prP, n, prP (i, j), rfl, rfl, ?_, RpB.dp (x := pD (i, j)) r2 (toPy_pr _), shaped_prs _, shaped_pr _, by rw [List.getElem?_map, h1]; rfl, by rw [eqv_pr]; simp, fun m z' hm hz => ?_, kq _ H2 (k1.trans k2) o2 (.int _)⟩
              · exact .lst (.of g2') (RpA.dp _ _ _ gr' (toPyA_pr ps))
              · rw [List.getElem?_map] at hz
                cases e6 : ps[m]? with
                | none => rw [e6] at hz; cases hz
                | some q' =>
                  rw [e6] at hz
                  cases hz
                  rw [eqv_pr]
                  exact decide_eq_false (h2 m hm q' e6)
        · cases e3
end
end Dl

/-! Methods and makers of a text's classes; a call as a statement. -/
namespace Dl
open PySem PySem.Spec L2
open PyProof.Rows (envOfC)
structure HasM (K : PySem.W.Frag) (C : Addr) (nm qual : Str) (st : Stmt) (ps : List Str) (f : Addr) (fd : FuncData) : Prop where
  F : Fun K nm qual st f fd
  m : Meth K C nm f
  b : Binds K fd ps []
theorem HasM.ok {P : Program} {w : World} {K : PySem.W.Frag} {mg : Str → Option Value} {base : Heap} {k : Nat} {C : Addr} {nm qual : Str} {st : Stmt} {ps N : List Str} {f : Addr} {fd : FuncData} {g : Sg} (h : HasM K C nm qual st ps f fd) (S : FnScope N ps (defScope st))
    (hb : ∀ (cdv : Value) (A : Around) (outer : List Env) (s : Shared) (H : Hp) (E : XK), Room k (A.deeper (envOfC qual (defScope st) s.heap.objs.size f cdv)) →
      ∃ t, DSs (cxOf CX0 P w K mg base N qual (defScope st) f cdv A outer s H E).nox (defBody st) t g) : MtG P w K mg base (k + 1) C nm ps (runG N g) :=
  ⟨f, fd, h.m, h.b, fn_g h.F S hb⟩
structure HasI (K : PySem.W.Frag) (C : Addr) (qual : Str) (st : Stmt) (ps : List Str) (f : Addr) (fd : FuncData) : Prop where
  F : Fun K "__init__" qual st f fd
  k : Mk K C f
  b : Binds K fd ps []
/-- C(..) is made by G -/
def OkC (P : Program) (w : World) (K : PySem.W.Frag) (mg : Str → Option Value) (base : Heap) (k : Nat) (nm : Str) (C : Addr) (ps : List Str) (G : GF) : Prop :=
  ∃ (f : Addr) (fd : FuncData), Mk K C f ∧ Binds K fd ps [] ∧ FnI P w K mg base k f fd ps nm G
theorem HasI.ok {P : Program} {w : World} {K : PySem.W.Frag} {mg : Str → Option Value} {base : Heap} {k : Nat} {C : Addr} {nm qual : Str} {st : Stmt} {ps N : List Str} {f : Addr} {fd : FuncData} {g : Sg} (h : HasI K C qual st ps f fd) (S : FnScope N ps (defScope st)) (hp : 1 ≤ ps.length)
    (hb : ∀ (cdv : Value) (A : Around) (outer : List Env) (s : Shared) (H : Hp) (E : XK), Room k (A.deeper (envOfC qual (defScope st) s.heap.objs.size f cdv)) →
      ∃ t, DSs (cxOf CX0 P w K mg base N qual (defScope st) f cdv A outer s H E).nox (defBody st) t g) : OkC P w K mg base (k + 1) nm C ps (runI N nm g) :=
  ⟨f, fd, h.k, h.b, fn_i h.F S hp hb⟩
section
variable {X : Cx} {e : Expr} {es : List Expr} {t te : TE} {tr : TA} {f : E} {fr : EA} {pos p : Pos} {nm : Str} {C : Addr}
theorem d_makeC {kk : Nat} {ps : List Str} {G : GF} (cl : ClO X.K X.mg nm C) (h : OkC X.prog X.w X.K X.mg X.base kk nm C ps G) (hr : Room (kk + 1) X.A) (hg : Gl X nm)
    (ha : DA X (e :: es) tr fr) (hdb : (nm == ("__debug__" : Str)) = false := by decide) (he : starEach (e :: es) X.env = (false, eval e X.env) :: starEach es X.env := by rfl) (hpl : (backTo pos (starEach es X.env)).any (·.1) = false := by rfl) :
    DS X (.Call (.Name nm p) (e :: es) [] pos) (tMake C (spI X.K X.mg nm (ps.length - 1) G) [] E0 tr) (eCall G (ps.length - 1) fr) := by
  obtain ⟨ff, fd, h2, h3, h4⟩ := h
  exact ⟨pe_make h2 h4 hr hg cl.m h3 .nil pass0 ha.p hdb he hpl, re_make cl.m ha.r⟩
/-- a call whose value is dropped -/
def gDrop (f : E) : Sg := fun env δ => (f env δ).map fun r => .nx env r.2
theorem d_drop (he : DE X e te f) (hs : swapsWith e none pos.line X.env = pure false := by rfl) : DSt X (.Expr e pos) (tDrop te) (gDrop f) := by
  refine ⟨ps_expr he.p hs, fun q σ H env δ o D k ef ko => ?_⟩
  unfold gDrop at ef
  cases e1 : f env δ with
  | none => rw [e1] at ef; cases ef
  | some r1 =>
    rw [e1] at ef
    cases ef
    exact he.r q σ H env δ r1.1 r1.2 _ k e1 fun v H1 k1 o1 r => ko σ H1 o1
theorem u65 {X : Cx} {kk : Nat} (hr : Room kk X.A) : X.A.units + 65 < cLine := by have := hr.un; omega
/-- a K-constant tuple -/
theorem rp_ctup {K : PySem.W.Frag} {mg : Str → Option Value} {t : Addr} {dd : Option Addr} {m : Nat} {sl : Array (Option Value)} {its : Array Value} {vs : List V} {xs : List Dat} (q : K.lookup t = some ⟨.type "tuple", dd, .seq its m, sl⟩) (hz : its.size < 1000) (rv : Vals vs its.toList)
    (d : Option Addr) (N : Addr → Prop) (H : Hp) (r : RpA K mg d N H vs xs) : Rp K mg d N H (.ref t) (.ctup xs) := by
  refine .ctup (.inr ⟨_, _, _, q, rfl, rfl, ?_, rv⟩) r
  rw [sizeLine_eq]
  omega
end
end Dl

/-! tuple(..), list(range(..)), sorted and index of whole numbers, three names at once, a list turned round, a dict whose keys are texts. -/
namespace Dl
open PySem PySem.Spec L2
section
variable {X : Cx} {e a b c iter tg : Expr} {te ta tb tc : TE} {f g fe : E} {fi fr : EA} {gd : GT} {tgd : TG} {wi : TI} {ts : List Nat} {tr : TA} {pos p p2 pos2 : Pos} {K : PySem.W.Frag} {mg : Str → Option Value}
/-! ### tuple(l) -/
def eTupOf (f : E) : E := fun env δ => (f env δ).bind fun r => match r.1 with
  | .lst xs => some (.tup xs, r.2)
  | _ => none
theorem d_tupOf (hg : Gl X "tuple") (hm : X.mg "tuple" = none) (ha : DE X a ta f) (na : starEach [a] X.env = (false, eval a X.env) :: starEach [] X.env := by rfl) :
    DS X (.Call (.Name "tuple" p) [a] [] pos) (tThen ta (kTup X.K)) (eTupOf f) := by
  refine ⟨pe_tupleOf hg hm ha.p na, fun q σ H env δ x δ' Q k ef kq => ?_⟩
  unfold eTupOf at ef
  cases e1 : f env δ with
  | none => rw [e1] at ef; cases ef
  | some r1 =>
    obtain ⟨y, δ1⟩ := r1
    rw [e1] at ef
    cases y <;> first | (cases ef; done) | skip
    rename_i xs
    cases ef
    refine ha.r q σ H env δ _ _ _ k e1 fun v H1 k1 o1 r => ?_
    obtain ⟨aa, vs, rfl, h2, _, hr⟩ := r
    refine .inl ⟨aa, vs, rfl, .of h2, fun z hz => ?_⟩
    have s := same_fresh (o := .tup vs) hz
    exact kq _ _ (k1.trans (.of_same s)) (o1.grow s) (.tup upd_same (RpA.keep (.of_same s) (fun b z => .inl z) _ _ hr))
/-- the tuple is known to have no dict of its own -/
def kTupF (K : PySem.W.Frag) (x : V) (H : Hp) (Q : VK) : Prop :=
  ∃ l xs, x = .ref l ∧ SqL K H l xs ∧ ∀ (z : Addr) (ob : Obj), H z = none → ob.dict = none → Q (.ref z) (upd H z (.frz ob (.tup xs)))
theorem pe_tupF (hg : Gl X "tuple") (hm : X.mg "tuple" = none) (ha : PE X a ta) (na : starEach [a] X.env = (false, eval a X.env) :: starEach [] X.env := by rfl) :
    PE X (.Call (.Name "tuple" p) [a] [] pos) (tThen ta (kTupF X.K)) := by
  constructor
  intro pins s σ H Q I h
  refine PyProof.Rows.Call_ (ld_blt I hg hm PyProof.Rows.boot_tuple (PyProof.Rows.callWith_type1 (one_arg ha I h (fun v s2 x H2 I2 r q => ?_) na) na))
  obtain ⟨l, xs, rfl, hs, q⟩ := q
  have r : v = .ref l := r
  subst r
  obtain ⟨its, rv, pl, hz⟩ := I2.list hs
  refine PySem.call_tuple_list pl.isList (fun h' hk => ?_) (by rw [List.size_toArray, ← rv.length]; exact hz)
  have J := I2.kept (t' := s2.toks) hk
  have J2 := J.laid (a := h'.objs.size) (o := .frz { cls := .type "tuple", data := .seq its.toArray } (.tup xs)) (h' := h'.push { cls := .type "tuple", data := .seq its.toArray }) (t' := s2.toks)
    (fun b o e => Heap.get?_push_of_some _ e) (Nat.le_refl _) ⟨Heap.get?_push_size _ rfl, hz, its, rv, PyProof.Rows.IsTup.new _ _⟩
  exact ⟨.ref h'.objs.size, _, J2, rfl, q _ _ (J.hok.fresh (Nat.le_refl _)) rfl⟩
/-! ### range(..) made a list, a tuple -/
theorem rp_rg {d : Option Addr} {N : Addr → Prop} {H : Hp} (i j : Int) : RpA K mg d N H (rgV i j) (rangeD i j) := by
  unfold rgV rangeD
  induction List.range (j - i).toNat with
  | nil => exact .nil
  | cons z l ih => exact .cons (.int _) ih
def smallN (n : Int) : Bool := decide (-1000 ≤ n) && decide (n ≤ 1000000)
theorem small_rg {n : Int} (h : smallN n = true) : RgOk 0 n := by
  unfold smallN at h
  simp only [Bool.and_eq_true, decide_eq_true_eq] at h
  unfold RgOk
  omega
def eTupRg (f : E) : E := fun env δ => (f env δ).bind fun r => match r.1 with
  | .int n => if smallN n = true then some (.tup (rangeD 0 n), r.2) else none
  | _ => none
theorem d_tupRg (hc : X.calm = true) (hg : Gl X "tuple") (hm : X.mg "tuple" = none) (hgr : Gl X "range") (hmr : X.mg "range" = none) (ha : DE X a ta f)
    (n1 : starEach [a] X.env = (false, eval a X.env) :: starEach [] X.env := by rfl)
    (n2 : starEach [.Call (.Name "range" p2) [a] [] pos2] X.env = (false, eval (.Call (.Name "range" p2) [a] [] pos2) X.env) :: starEach [] X.env := by rfl) :
    DS X (.Call (.Name "tuple" p) [.Call (.Name "range" p2) [a] [] pos2] [] pos) (tTupRg (tRg1 ta)) (eTupRg f) := by
  refine ⟨pe_tupRg hc hg hm (prg_1 hgr hmr ha.p n1) n2, fun q σ H env δ x δ' Q k ef kq => ?_⟩
  unfold eTupRg at ef
  cases e1 : f env δ with
  | none => rw [e1] at ef; cases ef
  | some r1 =>
    obtain ⟨y, δ1⟩ := r1
    rw [e1] at ef
    cases y <;> first | (cases ef; done) | skip
    rename_i n
    have ef : (if smallN n = true then some (Dat.tup (rangeD 0 n), δ1) else none) = some (x, δ') := ef
    split at ef
    · rename_i hn
      cases ef
      refine ha.r q σ H env δ _ _ _ k e1 fun v H1 k1 o1 r => ?_
      cases r
      refine ⟨n, rfl, small_rg hn, fun z hz => ?_⟩
      have s := same_fresh (o := .tup (rgV 0 n)) hz
      exact kq _ _ (k1.trans (.of_same s)) (o1.grow s) (.tup upd_same (rp_rg 0 n))
    · cases ef
def fLstRg (f : E) : EA := fun env δ => (f env δ).bind fun r => match r.1 with
  | .int n => if smallN n = true then some (rangeD 0 n, r.2) else none
  | _ => none
theorem d_lstRg (hc : X.calm = true) (hg : Gl X "list") (hm : X.mg "list" = none) (hgr : Gl X "range") (hmr : X.mg "range" = none) (ha : DE X a ta f)
    (n1 : starEach [a] X.env = (false, eval a X.env) :: starEach [] X.env := by rfl)
    (n2 : starEach [.Call (.Name "range" p2) [a] [] pos2] X.env = (false, eval (.Call (.Name "range" p2) [a] [] pos2) X.env) :: starEach [] X.env := by rfl) :
    DF X (.Call (.Name "list" p) [.Call (.Name "range" p2) [a] [] pos2] [] pos) (tLstRg (tRg1 ta)) (fLstRg f) := by
  refine ⟨pe_listRg hc hg hm (prg_1 hgr hmr ha.p n1) n2, fun q σ H env δ x δ' Q k ef kq => ?_⟩
  unfold fLstRg at ef
  cases e1 : f env δ with
  | none => rw [e1] at ef; cases ef
  | some r1 =>
    obtain ⟨y, δ1⟩ := r1
    rw [e1] at ef
    cases y <;> first | (cases ef; done) | skip
    rename_i n
    have ef : (if smallN n = true then some (rangeD 0 n, δ1) else none) = some (x, δ') := ef
    split at ef
    · rename_i hn
      cases ef
      refine ha.r q σ H env δ _ _ _ k e1 fun v H1 k1 o1 r => ?_
      cases r
      refine ⟨n, rfl, small_rg hn, fun z hz => ?_⟩
      obtain ⟨o2, h2⟩ := o1.pushGo hz (rp_rg 0 n)
      exact kq z _ (k1.trans (.fresh hz)) h2 o2
    · cases ef
/-! ### whole numbers in order -/
def insI (i : Int) : List Int → List Int
  | [] => [i]
  | j :: r => if j < i then j :: insI i r else i :: j :: r
def sortI : List Int → List Int
  | [] => []
  | i :: r => insI i (sortI r)
theorem insI_perm (i : Int) : ∀ l, (insI i l).Perm (i :: l)
  | [] => .refl _
  | j :: r => by
    unfold insI
    split
    · exact ((insI_perm i r).cons j).trans (.swap i j r)
    · exact .refl _
theorem sortI_perm : ∀ l, (sortI l).Perm l
  | [] => .refl _
  | i :: r => (insI_perm i _).trans ((sortI_perm r).cons i)
theorem insI_srt (i : Int) : ∀ l, l.Pairwise (· ≤ ·) → (insI i l).Pairwise (· ≤ ·)
  | [], _ => List.pairwise_singleton _ _
  | j :: r, h => by
    have ⟨h1, h2⟩ := List.pairwise_cons.mp h
    unfold insI
    split
    · refine List.pairwise_cons.mpr ⟨fun z hz => ?_, insI_srt i r h2⟩
      rcases List.mem_cons.mp ((insI_perm i r).mem_iff.mp hz) with rfl | hz
      · omega
      · exact h1 z hz
    · refine List.pairwise_cons.mpr ⟨fun z hz => ?_, h⟩
      rcases List.mem_cons.mp hz with rfl | hz
      · omega
      · have := h1 z hz
        omega
theorem sortI_srt : ∀ l, (sortI l).Pairwise (· ≤ ·)
  | [] => .nil
  | i :: r => insI_srt i _ (sortI_srt r)
theorem sortI_uniq {l m : List Int} (hp : l.Perm m) (hs : l.Pairwise (· ≤ ·)) : l = sortI m :=
  List.Perm.eq_of_pairwise (le := (· ≤ ·)) (fun a b _ _ h1 h2 => by omega) hs (sortI_srt m) (hp.trans (sortI_perm m).symm)
end
end Dl

/-! sorted(t), t.index(i) for tuples of whole numbers. -/
namespace Dl
section
open PySem PyProof.Rows Srt SrtO
variable {prog : Program} {w : World} {A : Around} {E : Value → Shared → Prop} {s : Shared}
/-- what a walk takes out of a tuple -/
theorem collect_t {t : Addr} {us : List Value} {Q : List Value → Shared → Prop} (ht : IsTup s.heap t us.toArray) (hz : us.length ≤ sizeLine)
    (q : Q us { s with heap := (s.heap.push (seqObj "list" #[] 0)).update s.heap.objs.size (Obj.mapSeq (· ++ us.toArray)) }) : wpAny (model prog w) A (collect (.ref t)) Q E s := by
  obtain ⟨ob, g, cl, n, dt⟩ := ht
  have g1 : (s.heap.push (seqObj "list" #[] 0)).get? t = some ob := Heap.get?_push_of_some _ g
  have g2 : (s.heap.push (seqObj "list" #[] 0)).get? s.heap.objs.size = some (seqObj "list" #[] 0) := Heap.get?_push_size _ rfl
  have big : ((#[] : Array Value) ++ us.toArray).size ≤ sizeLine + 1 := by
    rw [Array.size_append, List.size_toArray]
    show 0 + us.length ≤ _
    omega
  unfold collect
  apply wpAny_bind
  apply wpAny_runValue
  apply codeAny_builtin entry_proto_collect'
  show wpAny _ _ (do again (.builtin "list.__iadd__" ⟨[← newList [], .ref t], []⟩)) _ _ s
  apply wpAny_bind
  refine wpAny_newList ?_
  apply wpAny_pure
  refine ⟨Code.quiet_builtin _ (by decide +kernel), codeAny_builtin entry_list_iadd' ?_⟩
  show wpAny _ _ (Builtin.List.listExtendWith (.ref s.heap.objs.size) (.ref t) (.ref s.heap.objs.size)) _ _ { s with heap := s.heap.push (seqObj "list" #[] 0) }
  unfold Builtin.List.listExtendWith
  apply wpAny_bind
  refine wpAny_typeOf (T := "tuple") ⟨ob, g1, cl⟩ ?_
  have tt : (Value.type "tuple" == Value.type "tuple") = true := by rfl
  rw [if_pos (by rw [tt]; simp)]
  apply wpAny_bind
  refine listItems_at g1 dt ?_
  apply wpAny_bind
  refine listItems_at (xs := #[]) (n := 0) g2 rfl ?_
  rw [if_neg (by simp)]
  apply wpAny_bind
  refine listUpdate_at (xs := #[]) (n := 0) g2 rfl ?_ (Nat.zero_le _) big
  apply wpAny_pure
  show wpAny (model prog w) A (do
      let o ← load s.heap.objs.size
      match o.data with
      | .seq xs _ => pure xs.toList
      | _ => unsupported "internal:collect") Q E { s with heap := (s.heap.push (seqObj "list" #[] 0)).update s.heap.objs.size (Obj.mapSeq (· ++ us.toArray)) }
  apply wpAny_bind
  refine wpAny_load (get?_update_seq g2 _) ?_
  show wpAny _ _ (pure ((#[] : Array Value) ++ us.toArray).toList) Q E _
  apply wpAny_pure
  simpa using q
/-- sorted(t), t a tuple of whole numbers -/
theorem sorted_t {t : Addr} {us : List Value} {ltv : Value → Value → Bool} {Q : Value → Shared → Prop} (O : Swo ltv) (ht : IsTup s.heap t us.toArray) (hz : us.length ≤ sizeLine)
    (hS : 2 ≤ us.length → ∀ (h₁ : Heap) (a : Addr), SortableO prog w A.in1.in1 { s with heap := h₁ } a us ltv)
    (q : ∀ out : List Value, Srtd ltv out → Stb ltv out us → Q (.ref (s.heap.objs.size + 1)) { s with heap := sortedAll s.heap us out.toArray }) :
    wpAny (model prog w) A (call (.builtin "sorted") [.ref t]) Q E s := by
  apply Calls.call_function_entry kind_sorted plain_sorted entry_sorted (args_sorted1 _)
  unfold Builtin.«sorted»
  refine wpAny_bind (m := checkCount "sorted" 1 1 _) (wpAny_pure ?_)
  apply wpAny_bind
  refine collect_t ht hz ?_
  apply wpAny_bind
  refine wpAny_newList ?_ hz
  generalize hM : (s.heap.push (seqObj "list" #[] 0)).update s.heap.objs.size (Obj.mapSeq (· ++ us.toArray)) = M
  have sz : M.objs.size = s.heap.objs.size + 1 := by rw [← hM, Heap.size_update, size_push']
  have top : (M.push (seqObj "list" us.toArray 0)).get? (s.heap.objs.size + 1) = some (seqObj "list" us.toArray 0) := by
    rw [← sz]
    exact Heap.get?_push_size _ rfl
  show wpAny _ _ _ _ _ { s with heap := M.push (seqObj "list" us.toArray 0) }
  rw [sz]
  apply wpAny_bind
  apply wpAny_holding
  refine wpAny_call_entry slot_list_sort ⟨_, top, rfl⟩ entry_list_sort ?_ (args_list_sort _)
  refine list_sort_ord O top hz (fun h2 => hS h2 _ _) fun out hs hb => ⟨_, rfl, ?_⟩
  apply wpAny_pure
  refine ⟨_, rfl, ?_⟩
  have := q out hs hb
  rw [← hM]
  exact this
end
open PySem PySem.Spec L2
/-! ### the rules -/
def rSortedTI (K : PySem.W.Frag) : List V → Hp → VK → Prop := fun vs H Q => ∃ (t : Addr) (ns : List Int), vs = [V.ref t] ∧ SqT K H t (ns.map V.int) ∧
  ∀ (out : List Int) (z : Addr), out.Perm ns → out.Pairwise (· ≤ ·) → H z = none → Q (.ref z) (upd H z (.lst (out.map V.int)))
theorem cr_sortedTI {X : Cx} : CallR X (.builtin "sorted") (rSortedTI X.K) := by
  intro pins s σ H vs us Q I r h
  obtain ⟨t, ns, rfl, ht, q⟩ := h
  obtain ⟨its, rv, pl, hz⟩ := I.tuple ht
  rw [Vals.ref1 r]
  have hi := rv.ints
  refine sorted_t SrtO.swo_int pl (by rw [← rv.length]; exact hz) (fun h2 h₁ a' => SrtO.ints_sortable hi h2) fun out h1 h2 => ?_
  obtain ⟨k1, k2, k3⟩ := SrtO.ints_out hi h1 h2
  obtain ⟨ep, he'⟩ := PyProof.Rows.sortedAll_at s.heap its out.toArray
  have hl : ((out.map SrtO.iv).map V.int).length ≤ sizeLine := by
    rw [List.length_map, k2.length_eq, ← List.length_map (f := V.int)]
    exact hz
  have J := I.laid (t' := s.toks) (a := s.heap.objs.size + 1) (o := .lst ((out.map SrtO.iv).map V.int)) (fun b o => PyProof.Rows.sortedAll_old) (Nat.le_succ _) ⟨hl, out, ep, vals_of_ints k1, he'⟩
  exact ⟨.ref _, _, J, rfl, q _ _ k2 k3 (I.hok.fresh (Nat.le_succ _))⟩
section
variable {K : PySem.W.Frag} {mg : Str → Option Value}
theorem rpA_ints {d : Option Addr} {N : Addr → Prop} {H : Hp} : ∀ l : List Int, RpA K mg d N H (l.map V.int) (l.map Dat.int)
  | [] => .nil
  | i :: l => .cons (.int i) (rpA_ints l)
def tupI : Dat → Option (List Int)
  | .tup xs => toI xs
  | .ftup xs => toI xs
  | _ => none
theorem RpB.tupI {d : Option Addr} {N : Addr → Prop} {H : Hp} {v : V} {x : Dat} {ns : List Int} (r : RpB K mg d N H v x) (e : Dl.tupI x = some ns) : ∃ t, v = .ref t ∧ SqT K H t (ns.map V.int) := by
  cases x <;> first | (cases e; done) | skip
  · have r : Rp K mg d N H v (.tup _) := r
    cases r with
    | tup h1 h2 => exact ⟨_, rfl, by rw [← h2.toI e]; exact .of h1⟩
  · have r : Rp K mg d N H v (.ftup _) := r
    cases r with
    | ftup h1 ho h2 => exact ⟨_, rfl, by rw [← h2.toI e]; exact .inl (.inr ⟨_, h1⟩)⟩
def dSortedTI : List Dat → Option Dat
  | [x] => (tupI x).map fun ns => .lst ((sortI ns).map .int)
  | _ => none
theorem ref_sortedTI : RefC K mg (rSortedTI K) dSortedTI := by
  intro d N H vs xs z Q hd hN r e kq
  match xs, vs, r with
  | [x], [v], ⟨r, _⟩ =>
    have e : ((tupI x).map fun ns => Dat.lst ((sortI ns).map .int)) = some z := e
    cases e1 : tupI x with
    | none => rw [e1] at e; cases e
    | some ns =>
      rw [e1] at e
      cases e
      obtain ⟨t, rfl, h⟩ := r.tupI e1
      refine ⟨t, ns, rfl, h, fun out p hp hs hn => ?_⟩
      have s := same_fresh (o := .lst (out.map V.int)) hn
      have kq' : ∀ (u : V) (H' : Hp), Same H H' → Rp K mg d N H' u (.lst ((sortI ns).map .int)) → Q u H' := kq
      rw [← sortI_uniq hp hs] at kq'
      exact kq' _ _ s (.lst upd_same (fun z => hN _ z hn) (rpA_ints out))
  | [], _, _ => cases e
  | x :: _ :: _, _, _ => cases e
/-! ### t.index(i) -/
def ixI (i : Int) : List Int → Option Nat
  | [] => none
  | j :: r => if j = i then some 0 else (ixI i r).map (· + 1)
theorem ixI_some {i : Int} : ∀ {l : List Int} {k : Nat}, ixI i l = some k → l[k]? = some i ∧ ∀ m, m < k → l[m]? ≠ some i
  | [], _, e => by cases e
  | j :: r, k, e => by
    unfold ixI at e
    split at e
    · rename_i h
      cases e
      exact ⟨by rw [h]; rfl, fun m hm => absurd hm (Nat.not_lt_zero _)⟩
    · rename_i h
      cases e1 : ixI i r with
      | none => rw [e1] at e; cases e
      | some k1 =>
        rw [e1] at e
        cases e
        obtain ⟨h1, h2⟩ := ixI_some e1
        refine ⟨by simpa using h1, fun m hm => ?_⟩
        cases m with
        | zero => exact fun z => h (by cases z; rfl)
        | succ m => simpa using h2 m (Nat.lt_of_succ_lt_succ hm)
end
section
open PyProof.Rows
variable {X : Cx}
abbrev rTix : V → List V → Hp → VK → Prop := fun x xs H Q => ∃ (t : Addr) (ob : Obj) (ns : List Int) (i : Int) (k : Nat), x = .ref t ∧ xs = [.int i] ∧ H t = some (.frz ob (.tup (ns.map V.int))) ∧ ixI i ns = some k ∧ Q (.int (k : Nat)) H
theorem mt_tix : MtR X "tuple.index" rTix := by
  intro pins s σ H x xs v us Q I rx rs h
  obtain ⟨t, ob, ns, i, k, rfl, rfl, ht, hk, q⟩ := h
  obtain ⟨hk1, hk2⟩ := ixI_some hk
  cases rx
  obtain ⟨u, rfl, tk, rfl⟩ := vals1 rs
  obtain ⟨its, rv, pl, hz⟩ := I.tuple (a := t) (xs := ns.map V.int) (.inl (.inr ⟨_, ht⟩))
  obtain ⟨⟨cl, dd, dt, sl⟩, ho, hc, n, hd⟩ := pl
  simp only at hc hd
  subst hc hd
  have ln : its.toArray.size = ns.length := by rw [List.size_toArray, ← rv.length, List.length_map]
  have lt : k < its.toArray.size := by rw [ln]; exact (List.getElem?_eq_some_iff.mp hk1).1
  have item : ∀ (m : Nat) (hm : m < its.toArray.size), ∃ y t', ns[m]? = some y ∧ its.toArray[m] = Value.int y t' := fun m hm => by
    have lm : m < ns.length := by rw [← ln]; exact hm
    obtain ⟨w, hw, t', ew⟩ := rv.get (i := m) (x := .int ns[m]) (by simp [lm])
    refine ⟨ns[m], t', List.getElem?_eq_getElem lm, ?_⟩
    have e := (List.getElem?_eq_some_iff.mp hw).2
    rw [← ew, ← e]
    simp
  have flat : (ns.map V.int).all flatV = true := by
    rw [List.all_map]
    exact List.all_eq_true.mpr fun _ _ => rfl
  have T := TI.tuple_indexAt t its.toArray n dd sl (.int i tk) (eqU (.int i)) k lt (by
      obtain ⟨y, t', h1, h2⟩ := item k lt
      rw [hk1] at h1
      cases h1
      rw [h2]
      show (decide (i = i)) = true
      simp) (fun m hm hmk => by
      obtain ⟨y, t', h1, h2⟩ := item m hm
      rw [h2]
      show (decide (y = i)) = false
      exact decide_eq_false fun z => hk2 m hmk (by rw [h1, z]))
  exact call_meets PySem.F.slot_tuple_index ⟨_, ho, rfl⟩ PySem.F.entry_tuple_index (PySem.F.args_tuple_index_2 _ _) T
    ⟨ho, fun w hw => mem_eqAt (x := .int i) ⟨tk, rfl⟩ rfl rv flat w (by simpa using hw), ⟨.int (k : Nat), H, I.tok _, ⟨_, rfl⟩, q⟩⟩
def tTix (ta tb : TE) : TE := fun σ H Q => ta σ H fun x H1 => (∃ (t : Addr) (ob : Obj) (ns : List V), x = .ref t ∧ H1 t = some (.frz ob (.tup ns)) ∧ ob.dict = none) ∧ tb σ H1 fun y H2 => rTix x [y] H2 Q
variable {a b : Expr} {ta tb : TE} {f g : E} {apos cpos : Pos}
theorem pe_tix (ha : PE X a ta) (hb : PE X b tb) (hbase : attributeBase a "index" X.env (eval a X.env) = eval a X.env := by rfl)
    (hfew : ((backTo cpos (starEach [b] X.env)).all (fun x => !x.1) && (backToKw cpos (keywordEach [] X.env)).all (fun x => x.1.isSome)
      && decide ([b].length + ([] : List Keyword).length + (if ([] : List Keyword).isEmpty then 0 else 1) < 30)) = true := by rfl)
    (hline : (apos.endLine == cpos.line) = true := by rfl) (hs : starEach [b] X.env = (false, eval b X.env) :: starEach [] X.env := by rfl) :
    PE X (.Call (.Attribute a "index" apos) [b] [] cpos) (tTix ta tb) := by
  constructor
  intro pins s σ H Q I h
  refine wpAny_Call_method_late hbase hfew hline rfl (thn (ha.run pins s σ H _ I h) fun v s1 ⟨x, H1, I1, r1, ty, q1⟩ => ?_)
  obtain ⟨t, ob, ns, rfl, ht, hd⟩ := ty
  have r1 : v = .ref t := r1
  subst r1
  obtain ⟨go, pl⟩ := I1.hok t _ ht
  obtain ⟨_, its, rv, o2, g2, cl, _⟩ := pl
  refine ⟨"tuple", "tuple.index", PySem.F.plainAttrs_tuple, PySem.F.slot_tuple_index, PySem.F.type_tuple_index, ⟨o2, g2, cl⟩, fun z ez => by cases ez; exact ⟨ob, go, hd⟩, ?_⟩
  have hA := one_arg (pos := cpos) hb I1 q1 (Q := fun us s' => wpAny (model X.prog X.w) X.A (call (.builtin "tuple.index") (.ref t :: us)) (EP X pins σ Q) X.xe s') (fun u s2 y H2 I2 r2 q => mt_tix pins s2 σ H2 (.ref t) [y] (.ref t) [u] Q I2 rfl (.cons r2 .nil) q) hs
  rw [hs] at hA ⊢
  exact Calls.callWith_builtin rfl (Calls.evalArgs_plain hA)
def dTix : Dat → Dat → Option Dat
  | .ftup xs, .int i => (toI xs).bind fun ns => (ixI i ns).map fun k => .int (k : Nat)
  | _, _ => none
theorem d_tix (ha : DE X a ta f) (hb : DE X b tb g) (h : PE X (.Call (.Attribute a "index" apos) [b] [] cpos) (tTix ta tb)) : DS X (.Call (.Attribute a "index" apos) [b] [] cpos) (tTix ta tb) (eOp dTix f g) := by
  refine ⟨h, fun q σ H env δ z δ' Q k ef kq => ?_⟩
  unfold eOp at ef
  cases e1 : f env δ with
  | none => rw [e1] at ef; cases ef
  | some r1 =>
    obtain ⟨x, δ1⟩ := r1
    rw [e1] at ef
    cases e2 : g env δ1 with
    | none => simp [e2] at ef
    | some r2 =>
      obtain ⟨y, δ2⟩ := r2
      simp only [Option.bind_some, e2] at ef
      cases e3 : dTix x y with
      | none => rw [e3] at ef; cases ef
      | some w =>
        rw [e3] at ef
        cases ef
        unfold dTix at e3
        split at e3
        · rename_i xs i
          cases e4 : toI xs with
          | none => rw [e4] at e3; cases e3
          | some ns =>
            rw [e4] at e3
            simp only [Option.bind_some] at e3
            cases e5 : ixI i ns with
            | none => rw [e5] at e3; cases e3
            | some n =>
              rw [e5] at e3
              cases e3
              refine ha.r q σ H env δ _ δ1 _ k e1 fun v H1 k1 o1 r1 => ?_
              have r1 : Rp X.K X.mg q.d (NN q σ env) H1 v (.ftup xs) := r1
              cases r1 with
              | ftup h1 ho h2 =>
                rename_i t ob vs
                have ev := h2.toI e4
                subst ev
                refine ⟨⟨t, ob, _, rfl, h1, ho⟩, hb.r q σ H1 env δ1 _ _ _ o1 e2 fun w H2 k2 o2 r2 => ?_⟩
                cases r2
                exact ⟨t, ob, ns, i, n, rfl, rfl, k2 t _ h1 fun _ => rfl, e5, kq _ H2 (k1.trans k2) o2 (.int _)⟩
        · cases e3
end
end Dl

/-! Three names at once, a list turned round, a dict whose keys are texts, a tuple of what is taken out of a list one by one. -/
namespace Dl
open PySem PySem.Spec L2
section
variable {X : Cx} {e a b c o i v iter tg : Expr} {te ta tb tc td ty tv : TE} {f g fe : E} {fi fr : EA} {gd : GT} {tgd : TG} {wi : TI} {ts : List Nat} {tr : TA} {pos p p2 p3 pos2 : Pos} {K : PySem.W.Frag} {mg : Str → Option Value}
/-! ### a, b, c = x, y, z -/
def gPar3 (i j l : Nat) (fr : EA) : Sg := fun env δ => (fr env δ).bind fun r => match r.1 with
  | [x, y, z] => some (.nx (((env.set i (.val x)).set j (.val y)).set l (.val z)) r.2)
  | _ => none
theorem d_par3 (i j l : Nat) {st : Stmt} (ha : DA X [a, b, c] tr fr) (h : ∀ {tr : TA}, PA X [a, b, c] tr → PS X st (tPar3 i j l tr)) : DSt X st (tPar3 i j l tr) (gPar3 i j l fr) := by
  refine ⟨h ha.p, fun q σ H env δ o D k ef ko => ?_⟩
  unfold gPar3 at ef
  cases e1 : fr env δ with
  | none => rw [e1] at ef; cases ef
  | some r1 =>
    obtain ⟨xs, δ1⟩ := r1
    rw [e1] at ef
    simp only [Option.bind_some] at ef
    split at ef
    · rename_i x y z
      cases ef
      refine ha.r q σ H env δ _ _ _ k e1 fun vs H1 k1 o1 r => ?_
      cases r with
      | cons r1 r2 =>
        cases r2 with
        | cons r2 r3 =>
          cases r3 with
          | cons r3 r4 =>
            cases r4
            rename_i u v w
            refine ⟨u, v, w, rfl, ko _ H1 ?_⟩
            have o2 := (o1.pushGh (vs := [v, w]) (xs := [y, z]) (.cons r2 (.cons r3 .nil))).set i (x := x) (v := u) (by exact r1)
            obtain ⟨o3, r5⟩ := o2.popGh rfl
            cases r5 with
            | cons r5 r6 =>
              cases r6 with
              | cons r6 _ =>
                have o4 := (o3.pushGh (vs := [w]) (xs := [z]) (.cons r6 .nil)).set j (x := y) (v := v) (by exact r5)
                obtain ⟨o5, r7⟩ := o4.popGh rfl
                cases r7 with
                | cons r7 _ => exact o5.set l r7
    · cases ef
/-! ### l[::-1] -/
def eRevL (f : E) : E := fun env δ => (f env δ).bind fun r => match r.1 with
  | .lst xs => some (.lst xs.reverse, r.2)
  | _ => none
theorem RpA.reverse {d : Option Addr} {N : Addr → Prop} {H : Hp} : ∀ {vs : List V} {xs : List Dat}, RpA K mg d N H vs xs → RpA K mg d N H vs.reverse xs.reverse
  | _, _, .nil => .nil
  | _, _, .cons r1 r2 => by
    rw [List.reverse_cons, List.reverse_cons]
    exact (RpA.reverse r2).append (.cons r1 .nil)
theorem d_revL (ha : DE X a ta f) {p4 : Pos} {j : Nat} : DS X (.Subscript a (.Slice none none (some (.UnaryOp .USub (.Constant (.int 1) j p3) p4)) p2) pos) (tRevL X.K ta) (eRevL f) := by
  refine ⟨pe_revL ha.p, fun q σ H env δ x δ' Q k ef kq => ?_⟩
  unfold eRevL at ef
  cases e1 : f env δ with
  | none => rw [e1] at ef; cases ef
  | some r1 =>
    obtain ⟨y, δ1⟩ := r1
    rw [e1] at ef
    cases y <;> first | (cases ef; done) | skip
    rename_i xs
    cases ef
    refine ha.r q σ H env δ _ _ _ k e1 fun v H1 k1 o1 r => ?_
    obtain ⟨aa, vs, rfl, h2, _, hr⟩ := r
    refine ⟨aa, vs, rfl, .of h2, fun z hz => ?_⟩
    have s := same_fresh (o := .lst vs.reverse) hz
    exact kq _ _ (k1.trans (.of_same s)) (o1.grow s) (.lst upd_same (o1.free hz) (RpA.keep (.of_same s) (fun b z => .inl z) _ _ hr.reverse))
/-! ### {"k": v, ..} -/
structure DPs (X : Cx) (pos : Pos) (keys : List (Option Expr)) (values : List Expr) (trs : List (TE × TE)) (ks : List Key) (fr : EA) : Prop where
  p : PPs X pos keys values trs
  r : ∀ (q : Fm) (σ : St) (H : Hp) (env : Ev) (δ : List Int) (xs : List Dat) (δ' : List Int) (Q : List (V × V) → Hp → Prop), Ok X.K X.mg q σ H env δ → fr env δ = some (xs, δ') →
    (∀ vs H', Keep (isD q.d) H H' → Ok X.K X.mg q σ H' env δ' → ks.length = vs.length → RpA X.K X.mg q.d (NN q σ env) H' vs xs → Q ((ks.zip vs).map fun kv => (kV kv.1, kv.2)) H') → tPairs trs σ H Q
theorem d_pnil : DPs X pos [] [] [] [] aNil := ⟨pps_nil, fun q σ H env δ xs δ' Q k ef kq => by
  cases ef
  exact kq [] H .refl k rfl .nil⟩
theorem d_pcons {z : Str} {j} {keys : List (Option Expr)} {values : List Expr} {trs : List (TE × TE)} {ks : List Key} (hv : DS X v tv f) (hr : DPs X pos keys values trs ks fr) :
    DPs X pos (some (.Constant (.str z) j p) :: keys) (v :: values) ((tC (.str z), tv) :: trs) (.inr z :: ks) (aCons f fr) := by
  refine ⟨pps_cons pe_str hv.p hr.p, fun q σ H env δ xs δ' Q k ef kq => ?_⟩
  unfold aCons at ef
  cases e1 : f env δ with
  | none => rw [e1] at ef; cases ef
  | some r1 =>
    obtain ⟨y, δ1⟩ := r1
    rw [e1] at ef
    cases e2 : fr env δ1 with
    | none => simp [e2] at ef
    | some r2 =>
      obtain ⟨ys, δ2⟩ := r2
      simp only [Option.bind_some, e2, Option.map_some, Option.some.injEq, Prod.mk.injEq] at ef
      obtain ⟨rfl, rfl⟩ := ef
      show tv σ H fun u H2 => tPairs trs σ H2 fun ps H3 => Q ((V.str z, u) :: ps) H3
      refine hv.r q σ H env δ y δ1 _ k e1 fun u H1 k1 o1 r1 => ?_
      refine hr.r q σ H1 env δ1 ys δ2 _ o1 e2 fun vs H2 k2 o2 hl r2 => ?_
      exact kq (u :: vs) H2 (k1.trans k2) o2 (by simp [hl]) (.cons (Rp.keep (k2.weak k.dn) (fun b z => .inl z) _ _ r1) r2)
theorem putK_fresh {κ : Type} [DecidableEq κ] {kvs : List (κ × V)} {k : κ} {u : V} (h : k ∉ kvs.map (·.1)) : putK kvs k u = kvs ++ [(k, u)] := by
  unfold putK
  rw [if_neg]
  intro z
  obtain ⟨kv, m, e⟩ := List.any_eq_true.mp z
  exact h (List.mem_map.mpr ⟨kv, m, of_decide_eq_true e⟩)
theorem mergeK_nodup : ∀ {more kvs : List (Key × V)}, (kvs.map (·.1) ++ more.map (·.1)).Nodup → mergeK kvs more = kvs ++ more
  | [], kvs, _ => (List.append_nil _).symm
  | kv :: more, kvs, h => by
    have h1 : kv.1 ∉ kvs.map (·.1) := fun z => by
      have := (List.nodup_append.mp h).2.2 _ z kv.1 (by simp)
      exact this rfl
    show mergeK (putK kvs kv.1 kv.2) more = _
    rw [putK_fresh h1, mergeK_nodup (by simpa [List.append_assoc] using h)]
    simp
theorem fst_zip {ks : List Key} : ∀ {vs : List V}, ks.length = vs.length → (ks.zip vs).map (·.1) = ks := fun {vs} h => by
  rw [List.map_fst_zip]
  omega
abbrev Fm.guard (q : Fm) (z : Addr) (ob : HO) : Fm := { q with M := fun b => q.M b ∨ b = z, H0 := upd q.H0 z ob }
theorem NN.guard {q : Fm} {σ : St} {env : Ev} {z b : Addr} {ob : HO} (h : NN (q.guard z ob) σ env b) : b = z ∨ NN q σ env b := by
  rcases h with (h | h) | h
  · exact .inr (.inl h)
  · exact .inl h
  · exact .inr (.inr h)
theorem NN.of_guard {q : Fm} {σ : St} {env : Ev} {z b : Addr} {ob : HO} (h : NN q σ env b) : NN (q.guard z ob) σ env b := by
  rcases h with h | h
  · exact .inl (.inl h)
  · exact .inr h
/-- a new thing that nothing may reach -/
theorem Ok.guard {q : Fm} {σ : St} {H : Hp} {env : Ev} {δ : List Int} (k : Ok K mg q σ H env δ) {z : Addr} (hz : H z = none) (ob : HO) (pl : Plain z (some ob)) : Ok K mg (q.guard z ob) σ (upd H z ob) env δ := by
  have k' := k.grow (same_fresh (o := ob) hz)
  have s := same_fresh (o := ob) hz
  have hN : ∀ b, NN (q.guard z ob) σ env b → NN q σ env b ∨ H b = none := fun b h => by
    rcases h.guard with rfl | h
    · exact .inr hz
    · exact .inl h
  have hK : Keep (NN q σ env) H (upd H z ob) := .of_same s
  have ne : ∀ a o, H a = some o → a ≠ z := fun a o e c => by rw [c, hz] at e; cases e
  have h0 : ∀ a, q.H0 a = none → (∃ o, H a = some o) → (q.guard z ob).H0 a = none := fun a e ⟨o, eo⟩ => by
    show upd q.H0 z ob a = none
    rw [upd_ne (ne a o eo)]
    exact e
  refine ⟨keep_but k'.kp (fun b hb => upd_ne hb) (fun b hb => rfl) (.inr (by rw [upd_same]; exact upd_same)) (by show Plain z (upd q.H0 z ob z); rw [upd_same]; exact pl) (by rw [upd_same]; exact pl), k'.dc, fun a e => .inl (k.dm a e), fun b hb => ?_, k.ln, k.sf, fun j y e => ?_, fun j l e => ?_, k.ds, RpA.keep hK hN _ _ k.gh, fun a l e => ?_⟩
  · show upd q.H0 z ob b ≠ none
    by_cases c : b = z
    · subst c
      rw [upd_same]
      intro z; cases z
    · rw [upd_ne c]
      rcases hb with hb | hb
      · exact k.md b hb
      · exact absurd hb c
  · obtain ⟨w, e1, r1⟩ := k.vl j y e
    exact ⟨w, e1, Rp.keep hK hN _ _ r1⟩
  · obtain ⟨a, vs, e1, e2, e3, r1⟩ := k.ow j l e
    exact ⟨a, vs, e1, h0 a e2 ⟨_, e3⟩, s a _ e3, Cn.keep hK hN _ _ r1⟩
  · obtain ⟨e1, ⟨vs, e3, r1⟩, e4⟩ := k.go a l e
    exact ⟨h0 a e1 ⟨_, e3⟩, ⟨vs, s a _ e3, RpA.keep hK hN _ _ r1⟩, e4⟩
def eDisp (ks : List Key) (fr : EA) : E := fun env δ => (fr env δ).map fun r => (.dK ks r.1, r.2)
theorem d_disp {keys : List (Option Expr)} {values : List Expr} {trs : List (TE × TE)} {ks : List Key} (h : DPs X pos keys values trs ks fr) (hall : keys.all (·.isSome) = true) (hl : keys.length = values.length) (h0 : keys ≠ [])
    (h15 : keys.length ≤ 15) (hk : ks.length ≤ 15) (hn : ks.Nodup) : DS X (.Dict keys values pos) (tDisp trs) (eDisp ks fr) := by
  refine ⟨pe_disp h.p hall hl h0 h15, fun q σ H env δ x δ' Q k ef kq z hz => ?_⟩
  unfold eDisp at ef
  cases e1 : fr env δ with
  | none => rw [e1] at ef; cases ef
  | some r1 =>
    obtain ⟨xs, δ1⟩ := r1
    rw [e1] at ef
    cases ef
    have s := same_fresh (o := HO.dK []) hz
    refine h.r (q.guard z (.dK [])) σ _ env δ xs _ _ (k.guard hz (.dK []) (fun o e => by cases e; exact ⟨rfl, noC rfl⟩)) e1 fun vs H2 k2 o2 hl r => ?_
    have k2 : Keep (isD q.d) (upd H z (.dK [])) H2 := k2
    have zd : q.d ≠ some z := fun e => k.nn (k.dn _ e) hz
    have g2 : H2 z = some (.dK []) := k2 z _ upd_same fun e => absurd (noT e rfl) zd
    refine ⟨g2, ks.zip vs, rfl, by simp [hl] at hk ⊢; omega, ?_⟩
    have em : mergeK [] (ks.zip vs) = ks.zip vs := by
      rw [mergeK_nodup (by rw [fst_zip hl]; simpa using hn), List.nil_append]
    rw [em]
    have nz : ¬ NN q σ env z := k.free hz
    have kk : Keep (isD q.d) H (upd H2 z (.dK (ks.zip vs))) := ((Keep.of_same s).trans k2).off hz g2 rfl rfl
    have ko := k.step kk (fun a ha => by
      rw [upd_ne fun e => zd (by rw [← e]; exact ha)]
      exact o2.dc a ha)
    have hK : Keep (NN (q.guard z (.dK [])) σ env) H2 (upd H2 z (.dK (ks.zip vs))) := .at g2 (.inl (.inr rfl)) rfl rfl rfl
    exact kq _ _ kk ko (.dK (.inl upd_same) hl nz (RpA.keep hK (fun b h => .inl h.of_guard) _ _ r))
/-! ### d["k"] -/
def getK {α : Type} : List Key → List α → Key → Option α
  | k1 :: ks, x :: xs, k => if k1 = k then some x else getK ks xs k
  | _, _, _ => none
theorem valK_zip {k : Key} : ∀ {ks : List Key} {vs : List V}, valV (ks.zip vs) k = getK ks vs k
  | [], _ => by simp [valV_nil, getK]
  | _ :: _, [] => by simp [valV_nil, getK]
  | k1 :: ks, v :: vs => by
    rw [List.zip_cons_cons]
    unfold getK
    by_cases e : k1 = k
    · rw [valV_pos (by exact e), if_pos e]
    · rw [valV_neg (by exact e), if_neg e, valK_zip]
theorem getK_rel {d : Option Addr} {N : Addr → Prop} {H : Hp} {k : Key} {x : Dat} : ∀ {ks : List Key} {vs : List V} {xs : List Dat}, RpA K mg d N H vs xs → getK ks xs k = some x → ∃ v, getK ks vs k = some v ∧ Rp K mg d N H v x
  | [], _, _, _, h => by simp [getK] at h
  | _ :: _, _, _, .nil, h => by simp [getK] at h
  | k1 :: ks, _, _, .cons r1 r2, h => by
    unfold getK at h ⊢
    by_cases e : k1 = k
    · rw [if_pos e] at h ⊢
      cases h
      exact ⟨_, rfl, r1⟩
    · rw [if_neg e] at h ⊢
      exact getK_rel r2 h
def dGetK : Dat → Dat → Option Dat
  | .dK ks xs, y => (toKey y).bind fun k => getK ks xs k
  | _, _ => none
theorem d_getK {kk : Nat} (hr : Room kk X.A) (ho : DE X o td f) (hi : DE X i ty g) (hs : NoSl i := by exact fun _ _ => rfl) : DS X (.Subscript o i pos) (tDGet td ty) (eOp dGetK f g) := by
  refine ⟨pe_dget (u1 hr) ho.p hi.p hs, fun q σ H env δ x δ' Q k ef kq => ?_⟩
  unfold eOp at ef
  cases e1 : f env δ with
  | none => rw [e1] at ef; cases ef
  | some r1 =>
    obtain ⟨y, δ1⟩ := r1
    rw [e1] at ef
    cases e2 : g env δ1 with
    | none => simp [e2] at ef
    | some r2 =>
      obtain ⟨u, δ2⟩ := r2
      simp only [Option.bind_some, e2] at ef
      cases e3 : dGetK y u with
      | none => simp [e3] at ef
      | some w =>
        rw [e3] at ef
        cases ef
        unfold dGetK at e3
        split at e3
        · rename_i ks xs
          cases e4 : toKey u with
          | none => rw [e4] at e3; cases e3
          | some key =>
            rw [e4] at e3
            simp only [Option.bind_some] at e3
            refine ho.r q σ H env δ _ δ1 _ k e1 fun v H1 k1 o1 r1 => ?_
            refine hi.r q σ H1 env δ1 u _ _ o1 e2 fun v2 H2 k2 o2 r2 => ?_
            have r3 : Rp X.K X.mg q.d (NN q σ env) H2 v (.dK ks xs) := Rp.keep (k2.weak k.dn) (fun b z => .inl z) _ _ r1
            cases r3 with
            | dK h1 hl h2 h3 =>
              rename_i a vs
              have ev : v2 = kV key := by
                cases u <;> first | (cases e4; done) | skip
                · have r2 : Rp X.K X.mg q.d (NN q σ env) H2 v2 (.int _) := r2
                  exact r2.key e4
                · have r2 : Rp X.K X.mg q.d (NN q σ env) H2 v2 (.str _) := r2
                  exact r2.key e4
              obtain ⟨w', g1, g2⟩ := getK_rel h3 e3
              exact ⟨a, w', rfl, .inl ⟨_, key, h1, ev, by rw [valK_zip, g1]⟩, kq w' H2 (k1.trans k2) o2 g2⟩
        · cases e3
/-! ### tuple([l.pop(..) for ..]) -/
def popD (i : Nat) (gd : GT) (fe : E) (vs : List Nat) : Ev → List Dat → List Int → Option (List Dat × Ev × List Int)
  | env, [], δ => some ([], env, δ)
  | env, x :: xs, δ => if noOwn env vs = true then (gd x (wipeE env vs)).bind fun e1 => (fe e1 δ).bind fun r => match r.1, env[i]? with
      | .int z, some (.own (.lst, l)) => if -(2 ^ 63) ≤ z ∧ z < 2 ^ 63 then (ixN l.length z).bind fun n => (l[n]?).bind fun y => (popD i gd fe vs (env.set i (.own (.lst, l.eraseIdx n))) xs r.2).map fun u => (y :: u.1, u.2) else none
      | _, _ => none
    else none
def gRetPop (i : Nat) (fi : EA) (gd : GT) (fe : E) (vs : List Nat) : Sg := fun env δ => (fi env δ).bind fun r =>
  if r.1.length < 1000000 then (popD i gd fe vs env r.1 r.2).map fun u => .rt (.ftup u.1) u.2.2 else none
abbrev tPop (K : PySem.W.Frag) (i : Nat) (te : TE) : TE := tBM K "list" rPopAt (tVar i) (tCons te tNil)
theorem rs_retPop (i : Nat) {vs : List Nat} (hi : RI K mg wi fi) (hg : RG K mg tgd gd ts) (he : RS K mg te fe) (hs : ∀ j ∈ ts, j ∈ vs) (hiv : i ∉ vs) :
    RSt K mg (tRet (tThen (tLc wi tgd tYes (tPop K i te) vs) (kTupF K))) (gRetPop i fi gd fe vs) := by
  intro q σ H env δ o D k ef ko
  unfold gRetPop at ef
  cases e1 : fi env δ with
  | none => rw [e1] at ef; cases ef
  | some r1 =>
    obtain ⟨xs, δ1⟩ := r1
    rw [e1] at ef
    simp only [Option.bind_some] at ef
    split at ef
    rotate_left
    · cases ef
    rename_i hz
    cases e2 : popD i gd fe vs env xs δ1 with
    | none => rw [e2] at ef; cases ef
    | some u0 =>
      obtain ⟨l, envF, δF⟩ := u0
      rw [e2] at ef
      cases ef
      refine hi q σ H env δ xs δ1 _ k e1 fun J H1 gv gx k1 S o1 A hA => ?_
      obtain ⟨o2, hAq⟩ := o1.pushGo (l := []) (vs := []) hA .nil
      have hAq' : ∀ l', (A, l') ∉ q.go := hAq
      refine ⟨fun n m H' => m = xs.length - n ∧ n ≤ xs.length ∧ ∃ acc δn en u, Ok K mg ((q.withGh gv gx).withGo A acc) σ H' en δn ∧ acc.length ≤ n ∧ popD i gd fe vs en (xs.drop n) δn = some (u, envF, δF) ∧ acc ++ u = l,
        ⟨xs.length, by simp, Nat.zero_le _, [], δ1, env, l, o2, Nat.zero_le _, e2, rfl⟩, ?_⟩
      rintro n m H2 ⟨rfl, hile, acc, δn, en, u, k2, hal, el, eu⟩
      have gh2 := (Ok.popGh S.len (q := q.withGo A acc) ⟨k2.kp, k2.dc, k2.dm, k2.md, k2.ln, k2.sf, k2.vl, k2.ow, k2.ds, k2.gh, k2.go⟩).2
      by_cases hlt : n < xs.length
      · rw [List.drop_eq_getElem_cons hlt] at el
        refine .inr ⟨S.go _ _ n gh2 hlt, fun H' => ∃ acc δn en u, Ok K mg ((q.withGh gv gx).withGo A acc) σ H' en δn ∧ acc.length ≤ n + 1 ∧ popD i gd fe vs en (xs.drop (n + 1)) δn = some (u, envF, δF) ∧ acc ++ u = l,
          fun H' h => ⟨xs.length - (n + 1), by omega, rfl, hlt, h⟩, fun v H3 y => ?_⟩
        obtain ⟨s, ry⟩ := S.yld _ _ n v H3 gh2 y
        have rx := ry _ (List.getElem?_eq_getElem hlt)
        unfold popD at el
        split at el
        rotate_left
        · cases el
        rename_i hno
        cases e3 : gd xs[n] (wipeE en vs) with
        | none => rw [e3] at el; cases el
        | some env1 =>
          rw [e3] at el
          simp only [Option.bind_some] at el
          have k3 : Ok K mg ((q.withGh gv gx).withGo A acc) σ H3 en δn := k2.grow s
          have k3w := k3.wiped vs
          have rx' : Rp K mg q.d (NN ((q.withGh gv gx).withGo A acc) (wipe σ vs) (wipeE en vs)) H3 v xs[n] := by
            refine Rp.keep .refl (fun b z => .inl ?_) _ _ rx
            rcases z with z | z | ⟨j, l', z1, z2⟩
            · exact .inl z
            · exact .inr (.inl z)
            · rw [get_wipeE] at z1
              rw [get_wipe] at z2
              by_cases hj : j ∈ vs
              · rw [if_pos hj] at z1
                split at z1 <;> cases z1
              · rw [if_neg hj] at z1 z2
                exact .inr (.inr ⟨j, l', z1, z2⟩)
          refine hg ((q.withGh gv gx).withGo A acc) (wipe σ vs) H3 (wipeE en vs) δn v xs[n] env1 _ k3w rx' e3 fun σ2 a1 a2 k4 => ⟨wipe_ag a1 hs, ?_⟩
          cases e4 : fe env1 δn with
          | none => rw [e4] at el; cases el
          | some r4 =>
            obtain ⟨zz, δ4⟩ := r4
            rw [e4] at el
            simp only [Option.bind_some] at el
            split at el
            · rename_i z ll hl
              split at el
              · rename_i hb
                cases e5 : ixN ll.length z with
                | none => rw [e5] at el; cases el
                | some j =>
                  rw [e5] at el
                  simp only [Option.bind_some] at el
                  cases e6 : ll[j]? with
                  | none => rw [e6] at el; cases el
                  | some yy =>
                    rw [e6] at el
                    simp only [Option.bind_some] at el
                    cases e7 : popD i gd fe vs (en.set i (.own (.lst, ll.eraseIdx j))) (xs.drop (n + 1)) δ4 with
                    | none => rw [e7] at el; cases el
                    | some u7 =>
                      obtain ⟨uu, en7, δ7⟩ := u7
                      rw [e7] at el
                      cases el
                      have h1 : env1[i]? = some (.own (.lst, ll)) := by
                        rw [a2.2 i fun z => hiv (hs i z), get_wipeE, if_neg hiv]
                        exact hl
                      obtain ⟨b, ws, s1, g1, g3, gr⟩ := k4.owL i ll h1
                      show tPop K i te σ2 H3 _
                      refine ⟨.ref b, s1, .inl ⟨rfl, ws, .of g3⟩, ?_⟩
                      refine he _ σ2 H3 env1 δn (.int z) δ4 _ k4 e4 fun w H5 k5 o5 r5 => ?_
                      cases r5
                      have k6 : Ok K mg ((q.withGh gv gx).withGo A acc) σ H5 en δ4 := k3.step k5 o5.dc
                      obtain ⟨b', ws', s2, g4, g5, gs⟩ := k6.owL i ll hl
                      have eb : b' = b := by
                        have hh : σ2[i]? = σ[i]? := by
                          rw [a1.2 i fun z => hiv (hs i z), get_wipe, if_neg hiv]
                        rw [hh, s2] at s1
                        cases s1
                        rfl
                      subst eb
                      obtain ⟨v6, e8, r6⟩ := gs.get e6
                      have hix : ixN ws'.length z = some j := by rw [gs.length]; exact e5
                      refine ⟨b', ws', z, j, v6, rfl, rfl, g5, hb.1, hb.2, (ixN_seq hix).1, e8, ?_⟩
                      have k7 := k6.ownUpd hl s2 (gs.eraseIdx j)
                      obtain ⟨_, ⟨as, g7, gr7⟩, nA⟩ := k7.go A acc List.mem_cons_self
                      refine ⟨as, g7, by rw [gr7.length]; exact lt_line (by omega), acc ++ [yy], δ4, _, uu, k7.growGo (q := q.withGh gv gx) hAq g7 ?_, by simp; omega, e7, by simp [eu]⟩
                      have hK : Keep (NN ((q.withGh gv gx).withGo A acc) σ en) H5 (upd H5 b' (.lst (ws'.eraseIdx j))) := .at g5 (.inr (.inr ⟨i, _, hl, s2⟩)) rfl rfl rfl
                      refine Rp.keep hK (fun c z => .inl ?_) _ _ r6
                      rcases z with z | z | ⟨j2, l2, z1, z2⟩
                      · exact .inl z
                      · exact .inr (.inl z)
                      · rcases get_set_some z1 with ⟨rfl, e', _⟩ | ⟨_, z1'⟩
                        · exact .inr (.inr ⟨_, _, hl, z2⟩)
                        · exact .inr (.inr ⟨j2, l2, z1', z2⟩)
              · cases el
            · cases el
      · have e' : n = xs.length := by omega
        subst e'
        rw [List.drop_length] at el
        cases el
        rw [List.append_nil] at eu
        subst eu
        have k3 := (Ok.popGh S.len (q := q.withGo A acc) ⟨k2.kp, k2.dc, k2.dm, k2.md, k2.ln, k2.sf, k2.vl, k2.ow, k2.ds, k2.gh, k2.go⟩).1
        obtain ⟨_, ⟨as, g3, gr⟩, _⟩ := k3.go A acc List.mem_cons_self
        refine .inl ⟨S.stop _ _ gh2, A, as, rfl, .of g3, fun z ob hzn hob => ?_⟩
        have s := same_fresh (o := HO.frz ob (.tup as)) hzn
        obtain ⟨k4, _⟩ := k3.popGo hAq'
        have rr : RpA K mg q.d (NN (q.withGo A acc) σ _) H2 as acc := gr
        exact (k4.grow s).ret ko (.ftup upd_same hob (RpA.keep (.of_same s) (fun b h => .inl h.of_go) _ _ rr))
theorem d_retPop (i : Nat) {o1 e1 : Expr} {apos cpos : Pos} {scope : Scope} {own : List (Str × Nat)} (hgT : Gl X "tuple") (hmT : X.mg "tuple" = none) (hc : X.calm = true) (hN : X.N.Nodup) (hi : DI X tg iter wi fi) (ok : BlkOk X.N X.env.scope scope own)
    (hg : ∀ (s : Shared) (H : Hp) (C : Addr) (cl : List (Str × Addr)) (fp : List Addr), DG (X.blk s H scope (compEnvC scope cl C X.env) fp) tg tgd gd ts)
    (he : ∀ (s : Shared) (H : Hp) (C : Addr) (cl : List (Str × Addr)) (fp : List Addr), DS (X.blk s H scope (compEnvC scope cl C X.env) fp) e1 te fe)
    (hp : ∀ (s : Shared) (H : Hp) (C : Addr) (cl : List (Str × Addr)) (fp : List Addr), PA (X.blk s H scope (compEnvC scope cl C X.env) fp) [e1] (tCons te tNil) → PE (X.blk s H scope (compEnvC scope cl C X.env) fp) (.Call (.Attribute o1 "pop" apos) [e1] [] cpos) (tPop X.K i te))
    (hiv : i ∉ own.map (·.2)) (hts : ∀ j ∈ ts, j ∈ own.map (·.2) := by decide) (hs : ∀ x, foldedSetIterable iter X.env x = pure x := by intro _; rfl)
    (hse : ∀ (s : Shared) (H : Hp) (C : Addr) (cl : List (Str × Addr)) (fp : List Addr), starEach [e1] (X.blk s H scope (compEnvC scope cl C X.env) fp).env = (false, eval e1 (X.blk s H scope (compEnvC scope cl C X.env) fp).env) :: starEach [] (X.blk s H scope (compEnvC scope cl C X.env) fp).env := by intro _ _ _ _ _; rfl)
    (na : starEach [.ListComp (.Call (.Attribute o1 "pop" apos) [e1] [] cpos) [⟨tg, iter, [], 0⟩] scope p2] X.env = (false, eval (.ListComp (.Call (.Attribute o1 "pop" apos) [e1] [] cpos) [⟨tg, iter, [], 0⟩] scope p2) X.env) :: starEach [] X.env := by rfl) :
    DSt X (.Return (some (.Call (.Name "tuple" p) [.ListComp (.Call (.Attribute o1 "pop" apos) [e1] [] cpos) [⟨tg, iter, [], 0⟩] scope p2] [] pos2)) pos) (tRet (tThen (tLc wi tgd tYes (tPop X.K i te) (own.map (·.2))) (kTupF X.K))) (gRetPop i fi gd fe (own.map (·.2))) :=
  ⟨ps_ret (pe_tupF hgT hmT (pe_lc hc hN hi.p ok (fun s H C cl fp => (hg s H C cl fp).p) (fun s H C cl fp => pts_nil) (fun s H C cl fp => hp s H C cl fp (pa_cons (he s H C cl fp).p pa_nil (hse s H C cl fp))) hs) na),
   rs_retPop i hi.r (hg X.s_0 X.H_0 0 [] []).r (he X.s_0 X.H_0 0 [] []).r hts hiv⟩
end
end Dl

/-! While an exception is handled: a list walked to its end, a list comprehension over it. -/
namespace Ht
open PySem PySem.Spec PyProof.Rows L2 HotX
section
variable {prog : Program} {w : World} {A : Around} {E : Value → Shared → Prop} {s : Shared}
theorem list_end_hot {it l x1 : Addr} {i : Nat} {items : Array Value} {Q : Option Value → Shared → Prop} (hot : HotAt A x1 s.heap) (hit : s.heap.IsListIter it l i) (hl : s.heap.IsList l items) (hx : items[i]? = none) (hne : x1 ≠ it)
    (q : ∀ h', (∀ b o, b ≠ it → s.heap.get? b = some o → h'.get? b = some o) → Q none { s with heap := h' }) : wpAny (model prog w) A (pyNext (.ref it)) Q E s := by
  obtain ⟨ob, g, cl, dt⟩ := id hit
  obtain ⟨ol, gl, _, nl, dl⟩ := hl
  obtain ⟨hh, o1, vs1, h1, d1, c1⟩ := hot
  unfold pyNext
  apply wpAny_bind
  apply wpAny_attempt
  refine wpAny_callSpecial?_slot (name := Str.ofString "__next__") hit.typeIs slot_listiter_next ?_
  refine wpAny_call_entry slot_listiter_next hit.typeIs entry_listiter_next ?_ (args_listiter_next _)
  show wpAny _ _ (field (.ref it) 0 >>= _) _ _ s
  apply wpAny_bind
  refine wpAny_field g dt (x := .ref l) rfl ?_
  have nn : ¬ ((Value.ref l == Value.none) = true) := Bool.false_ne_true
  show wpAny _ _ (if (Value.ref l == Value.none) = true then _ else _) _ _ s
  rw [if_neg nn]
  show wpAny _ _ (field (.ref it) 1 >>= _) _ _ s
  apply wpAny_bind
  refine wpAny_field g dt (x := .int i 0) rfl ?_
  show wpAny _ _ (seqItems? (.ref l) >>= _) _ _ s
  apply wpAny_bind
  refine wpAny_seqItems gl dl ?_
  simp only [Int.toNat_natCast, hx]
  apply wpAny_bind
  apply wpAny_rule
  apply wpAny_bind
  refine wpAny_setField g dt (by simp) ?_
  generalize hM : s.heap.update it (Obj.mapFields fun x => x.setIfInBounds 0 Value.none) = M
  have keepM : ∀ b o, b ≠ it → s.heap.get? b = some o → M.get? b = some o := fun b o hb e => by
    rw [← hM, Heap.get?_update_other _ _ (fun z => hb z.symm)]
    exact e
  show wpAny _ _ (newExc (.type "StopIteration") [] >>= _) _ _ _
  apply wpAny_bind
  simp only [newExc, newTuple]
  apply wpAny_bind
  refine wpAny_newObj_type ?_ (by size_fits)
  refine wpAny_bind (m := firstArgMember _ _) (wpAny_of_eq (a := Value.none) (by first | rfl | (simp only [firstArgMember]; rfl)) ?_)
  refine wpAny_newObj_type ?_ (by size_fits)
  refine raiseNew_hot ⟨hh, o1, vs1, Heap.get?_push_of_some _ (Heap.get?_push_of_some _ (keepM x1 o1 hne h1)), d1, c1⟩ (Nat.ne_of_lt (Heap.lt_size (Heap.get?_push_of_some _ (keepM x1 o1 hne h1)))) (Heap.get?_push_size _ rfl) rfl
    (by first | (simp; done) | (simp; omega) | (simp only [Array.size_append]; simp; omega)) ?_
  apply wpAny_bind
  refine wpAny_isInstance (T := "StopIteration") (b := true) ⟨_, Heap.get?_update_self _ (Heap.get?_push_size _ rfl) rfl, rfl⟩ isSubtype_stop ?_
  apply wpAny_pure
  refine q _ fun b o hb e => ?_
  rw [Heap.get?_update_other _ _ (Nat.ne_of_gt (Heap.lt_size (Heap.get?_push_of_some _ (keepM b o hb e))))]
  exact Heap.get?_push_of_some _ (Heap.get?_push_of_some _ (keepM b o hb e))
end
end Ht

namespace Ht
open PySem PySem.Spec PyProof.Rows L2
/-- [elt for x in l], x in slot i; n items are in D at W n -/
def tLcH (K : PySem.W.Frag) (ti : TE) (i : Nat) (te : TE) (vs : List Nat) : TE := fun σ H Q => ti σ H fun v H1 => ∃ (a : Addr) (ys : List V), v = .ref a ∧ SqL K H1 a ys ∧ ∀ D, H1 D = none → ∃ W : Nat → Hp → Prop, W 0 (upd H1 D (.lst [])) ∧ (∀ n G, W n G → SqL K G a ys) ∧
  (∀ n G y, ys[n]? = some y → W n G → te ((wipe σ vs).set i (some y)) G fun z G1 => ∃ acc, G1 D = some (.lst acc) ∧ acc.length < sizeLine ∧ W (n + 1) (upd G1 D (.lst (acc ++ [z])))) ∧ ∀ G, W ys.length G → Q (.ref D) G
theorem wipe_put (σ : L2.St) (v : Option V) : ∀ {vs : List Nat} {i : Nat}, i ∈ vs → wipe ((wipe σ vs).set i v) vs = wipe σ vs := fun {vs i} h => by
  refine Dl.wipe_ag (ts := [i]) Dl.Ag.set fun j hj => ?_
  rcases List.mem_cons.mp hj with rfl | hj
  · exact h
  · cases hj
section
variable {X : Cx} {p : Addr × Obj} {elt tg iter : Expr} {scope : Scope} {own : List (Str × Nat)} {pos : Pos} {ti te : TE} {i : Nat}
theorem pe_lcH (hot : L2H.Hot1 X.A p) (hp : p ∈ X.pn) (hN : X.N.Nodup) (hi : PE X iter ti) (ok : BlkOk X.N X.env.scope scope own)
    (hg : ∀ (u : Shared) (G : Hp) (C : Addr) (cl : List (Str × Addr)) (fp : List Addr), PG (X.blk u G scope (compEnvC scope cl C X.env) fp) tg (gName i))
    (he : ∀ (u : Shared) (G : Hp) (C : Addr) (cl : List (Str × Addr)) (fp : List Addr), PE (X.blk u G scope (compEnvC scope cl C X.env) fp) elt te) (hiv : i ∈ own.map (·.2)) (hs : ∀ z, foldedSetIterable iter X.env z = pure z := by intro _; rfl) :
    PE X (.ListComp elt [⟨tg, iter, [], 0⟩] scope pos) (tLcH X.K ti i te (own.map (·.2))) := by
  constructor
  intro pins s σ H Q I h
  rw [eval_ListComp]
  have free : ∀ y ∈ scope.names, y.2 = .free → ∃ c, X.env.cells.lookup y.1 = some c := fun y hy e => (ok.free y hy e).elim (fun k => I.ok.has _ (.inl k)) (fun k => I.ok.has _ (.inr k))
  refine wpAny_comprehension_free (use := none) rfl hs (closure_ok free) ok.kind (fun y hy e => by rw [ok.uniq y hy, e]) (thn (hi.run pins s σ H _ I h) fun lv s1 ⟨v, H1, I1, r1, a, ys, ev, hq, step⟩ => ?_)
  subst ev
  cases r1
  obtain ⟨its, rv, pl, hz⟩ := I1.list hq
  refine wpAny_pyIter_list pl.isList ?_
  have I2 := I1.kept (t' := s1.toks) (h' := s1.heap.push { cls := .type "list_iterator", data := .fields #[.ref a, .int 0 0] }) fun b o e => Heap.get?_push_of_some _ e
  have fI := I1.fpOk (Nat.le_refl _) (I1.hok.fresh (Nat.le_refl _))
  have st2 : (s1.heap.push { cls := .type "list_iterator", data := .fields #[.ref a, .int 0 0] }).IsListIter s1.heap.objs.size a 0 := ⟨_, Heap.get?_push_size _ rfl, rfl, rfl⟩
  have lt2 : s1.heap.objs.size < (s1.heap.push { cls := .type "list_iterator", data := .fields #[.ref a, .int 0 0] }).objs.size := by rw [Heap.size_push]; exact Nat.lt_succ_self _
  generalize hs2 : ({ s1 with heap := s1.heap.push { cls := .type "list_iterator", data := .fields #[.ref a, .int 0 0] } } : Shared) = s2 at I2 ⊢
  have e2 : s2.heap = s1.heap.push { cls := .type "list_iterator", data := .fields #[.ref a, .int 0 0] } := by rw [← hs2]
  rw [← e2] at st2 lt2
  generalize s1.heap.objs.size = it at fI st2 lt2 ⊢
  refine wpAny_newObj_type (newEnv_comp ?_) (by show 0 ≤ sizeLine; decide)
  generalize hD : s2.heap.objs.size = D
  have nD : H1 D = none := I2.hok.fresh (Nat.le_of_eq hD)
  have itD : it ≠ D := by rw [← hD]; exact Nat.ne_of_lt lt2
  obtain ⟨W, w0, wl, wt, wq⟩ := step D nD
  generalize hs3 : ({ s2 with heap := s2.heap.push { cls := .type "list", data := .seq ([] : List Value).toArray } } : Shared) = s3
  have e3 : s3.heap = s2.heap.push { cls := .type "list", data := .seq ([] : List Value).toArray } := by rw [← hs3]
  have I3 : Inv X pins σ (upd H1 D (.lst [])) s3 := by
    rw [← hs3]
    refine I2.laid (t' := s2.toks) (fun b o e => Heap.get?_push_of_some _ e) (Nat.le_of_eq hD) ⟨Nat.zero_le _, [], 0, .nil, ?_⟩
    rw [← hD]
    exact Heap.get?_push_size _ rfl
  have f3 : ∀ b ∈ [it], FpOk X pins (upd H1 D (.lst [])) b ∧ b < s3.heap.objs.size := fun b hb => by
    have eb : b = it := by simpa using hb
    subst eb
    refine ⟨⟨?_, fI.2⟩, by rw [e3, Heap.size_push]; exact Nat.lt_succ_of_lt lt2⟩
    rw [upd_ne itD]
    exact fI.1
  have st3 : s3.heap.IsListIter it a 0 := st2.at fun o e => by rw [e3]; exact Heap.get?_push_of_some _ e
  have I4 := block_start I3 ok hN f3
  have pg := hg s3 (upd H1 D (.lst [])) s3.heap.objs.size (cellsFrom (s3.heap.objs.size + 1) scope.names (cloFrom X.env.cells scope.names [])) [it]
  have pe := he s3 (upd H1 D (.lst [])) s3.heap.objs.size (cellsFrom (s3.heap.objs.size + 1) scope.names (cloFrom X.env.cells scope.names [])) [it]
  show codeAny _ _ (.compStart (.ListComp elt [⟨tg, iter, [], 0⟩] scope pos) 0 (.ref it) (.ref D) (compEnvC scope (cellsFrom (s3.heap.objs.size + 1) scope.names (cloFrom X.env.cells scope.names [])) s3.heap.objs.size X.env)) (compPost (model X.prog X.w) X.A X.xe none _ (.ref D) s3.heap.objs.size)
    { s3 with heap := pushCells (s3.heap.push { cls := .type "dict", data := .dict #[] }) scope.names }
  have pinX := I3.pin p (List.mem_append_left _ hp)
  generalize hce : compEnvC scope (cellsFrom (s3.heap.objs.size + 1) scope.names (cloFrom X.env.cells scope.names [])) s3.heap.objs.size X.env = ce at I4 pg pe ⊢
  have cL : ce.locals = s3.heap.objs.size := by subst hce; rfl
  have sub := I3.stkSub
  generalize hH3 : upd H1 D (.lst []) = H3 at I3 I4 pg pe w0 f3 pinX
  generalize hs4 : ({ s3 with heap := pushCells (s3.heap.push { cls := .type "dict", data := .dict #[] }) scope.names } : Shared) = s4 at I4 ⊢
  have st4 : s4.heap.IsListIter it a 0 := st3.at fun o e => by rw [← hs4]; exact pushCells_keeps _ _ _ _ (Heap.get?_push_of_some _ e)
  have get4 : s4.heap.get? p.1 = some p.2 := by rw [← hs4]; exact pushCells_keeps _ _ _ _ (Heap.get?_push_of_some _ pinX.1)
  have hot' := hot
  obtain ⟨hh, evs, ed, en⟩ := hot'
  have I5 : Inv (X.blk s3 H3 scope ce [it]) [p] (wipe σ (own.map (·.2))) H3 s4 := I4.pins_of fun q hq => by
    have eq : q = p := by simpa using hq
    subst eq
    refine ⟨get4, pinX.2.1, ?_, fun hm => ?_, pinX.2.2.2.2⟩
    · rw [cL]
      exact Nat.ne_of_lt (Heap.lt_size pinX.1)
    · exact (List.mem_cons.mp (sub _ hm)).elim pinX.2.2.1 pinX.2.2.2.1
  have pne : p.1 ≠ it := fI.2.2.2.2.2 p (List.mem_append_left _ hp)
  have loop : codeAny (model X.prog X.w) X.A (.compLoop (.ListComp elt [⟨tg, iter, [], 0⟩] scope pos) 0 (.ref it) (.ref D) ce) (compPost (model X.prog X.w) X.A X.xe none (EP X pins σ Q) (.ref D) s3.heap.objs.size) s4 := by
    refine compLoop_any (fun m s' => ∃ n G, m = ys.length - n ∧ n ≤ ys.length ∧ Inv (X.blk s3 H3 scope ce [it]) [p] (wipe σ (own.map (·.2))) G s' ∧ s'.heap.IsListIter it a n ∧ G it = none ∧ W n G) ?_ ys.length ⟨0, H3, by simp, Nat.zero_le _, I5, st4, (f3 it (by simp)).1.1, w0⟩
    rintro m s5 ⟨n, G, rfl, hn, J, st, gi, wn⟩
    have mem : it ∈ (X.blk s3 H3 scope ce [it]).ex := by show it ∈ [it]; simp
    have fb : FpOk (X.blk s3 H3 scope ce [it]) [p] G it := ⟨gi, (J.ok.exf it mem).1, J.ok.exfs it mem, .inl mem, fun x c e => (J.ok.exf it mem).2 x c e, fun q hq => by
      have eq : q = p := by simpa using hq
      rw [eq]
      exact pne⟩
    obtain ⟨f0, f1, f2, f4, f5, f6⟩ := id fb
    obtain ⟨its', rv', pl', _⟩ := J.list (wl n G wn)
    by_cases hlt : n < ys.length
    · obtain ⟨y, hy⟩ : ∃ y, ys[n]? = some y := ⟨_, List.getElem?_eq_getElem hlt⟩
      obtain ⟨u, hu, ru⟩ := rv'.get hy
      refine wpAny_pyNext_list_item st pl'.isList (x := u) (by simpa using hu) fun h' st' sb => ?_
      have J1 : Inv (X.blk s3 H3 scope ce [it]) [p] (wipe σ (own.map (·.2))) G { s5 with heap := h' } := J.turned (t' := s5.toks) (fun b o hb e => (sb.2 b hb).trans e) f0 f1 f4 f5 f6
      obtain ⟨ob, eo, co, dob⟩ := id st'
      refine go_of (s := { s5 with heap := h' }) eo co dob (by decide) ?_
      have J2 := J1.pinned (fp := [it]) (fun b hb => by
        have eb : b = it := by simpa using hb
        rw [eb]
        exact fb) (fun b hb => by
        have eb : b = it := by simpa using hb
        rw [eb]
        exact ⟨ob, eo, fun c z => by rw [dob] at z; cases z⟩)
      refine thnF (pg.run _ _ _ G y u (fun σ2 G2 => σ2 = (wipe σ (own.map (·.2))).set i (some y) ∧ G2 = G) J2 ru ⟨rfl, rfl⟩) fun _ s8 ⟨σ8, G8, J8, e8, eg⟩ => ?_
      subst e8
      subst eg
      refine wpAny_tests_nil ?_
      simp only [if_true]
      refine thnF (pe.run _ s8 _ G8 _ J8 (wt n G8 y hy wn)) fun zv s10 ⟨zz, G1, J10, r10, acc, hDa, hza, wn1⟩ => ?_
      refine app_ok (X := X.blk s3 H3 scope ce [it]) J10 hDa hza r10 fun s11 J11 => ?_
      have pi := J11.pin (it, ob) (List.mem_append_right _ (List.mem_append_right _ (mem_pinsAt (by simp) eo)))
      refine ⟨ys.length - (n + 1), by omega, n + 1, _, rfl, hlt, (J11.unpinned (pins := [p])).weak (by simp [wipe_length]) (fun j v e => ?_), st'.at fun o e => ?_, pi.2.1, wn1⟩
      · rw [← wipe_put σ (some y) hiv] at e
        exact (wipe_some e).1
      · have : o = ob := by
          rw [eo] at e
          cases e
          rfl
        rw [this]
        exact pi.1
    · have eN : n = ys.length := by omega
      have ln := rv'.length
      refine list_end_hot ⟨hh, p.2, evs, (J.pin p (by simp)).1, ed, en⟩ st pl'.isList (by simp; omega) pne fun h' kp => ?_
      have J1 : Inv (X.blk s3 H3 scope ce [it]) [p] (wipe σ (own.map (·.2))) G { s5 with heap := h' } := J.turned (t' := s5.toks) kp f0 f1 f4 f5 f6
      have K1 : Inv X pins σ G { s5 with heap := h' } := I3.call' (ch := [it]) J1.os J1.base J1.hok J1.bare fun b hb => ⟨(f3 b hb).1.2.2.2.1, (f3 b hb).1.2.1, (f3 b hb).1.2.2.2.2.1, (f3 b hb).1.2.2.2.2.2⟩
      have nC : G s3.heap.objs.size = none := by
        have z : G ce.locals = none := J1.free
        rwa [cL] at z
      obtain ⟨mm, hns, _⟩ := J1.loc
      have hns : h'.Ns ce.locals mm := hns
      rw [cL] at hns
      obtain ⟨t0, t1, t2, t3, t4, t5⟩ := I3.fpOk (Nat.le_refl _) nC
      exact ⟨mm, hns, fun h'' sb => ⟨.ref D, G, K1.turned (t' := s5.toks) (fun b o hb e => (sb.2 b hb).trans e) t0 t1 t3 t4 t5, rfl, wq G (by rw [← eN]; exact wn)⟩⟩
  exact codeAny_compStart_list loop (wpAny_pyIter_listiter st4 loop)
end
end Ht

/-! While an exception is handled, by data: its isinstance, a comprehension over a list, a call of a def. -/
namespace Dl
open PySem PySem.Spec L2 Ht
section
variable {K : PySem.W.Frag} {mg : Str → Option Value} {ti te : TE} {fi fe : E}
theorem rf_lcH {i : Nat} {vs : List Nat} (hi : RE K mg ti fi) (he : RS K mg te fe) (hv : i ∈ vs) : RF K mg (tLcH K ti i te vs) (fLc (iLst fi) (tgName i) eYes fe vs) := by
  intro q σ H env δ l δ' Q k ef kq
  unfold fLc iLst at ef
  cases e0 : fi env δ with
  | none => rw [e0] at ef; cases ef
  | some r0 =>
    obtain ⟨x0, δ1⟩ := r0
    rw [e0] at ef
    simp only [Option.bind_some] at ef
    cases x0 with
    | lst xs =>
      simp only [Option.bind_some] at ef
      split at ef
      rotate_left
      · cases ef
      rename_i hc
      rw [Bool.and_eq_true, decide_eq_true_eq] at hc
      obtain ⟨hz, hw⟩ := hc
      refine hi q σ H env δ _ δ1 _ k e0 fun v H1 k1 o1 r1 => ?_
      obtain ⟨a, ys, rfl, ha, hna, ry⟩ := r1
      refine ⟨a, ys, rfl, SqL.of ha, fun D hD => ?_⟩
      obtain ⟨o2, hDq⟩ := o1.pushGo (l := []) (vs := []) hD .nil
      have hDn : H D = none := by
        cases z : H D with
        | none => rfl
        | some o => exact absurd hD (k1.there z fun hd z => by
            have := o1.dc D hd
            rw [z] at this; cases this)
      have haD : a ≠ D := fun z => by rw [z, hD] at ha; cases ha
      refine ⟨fun n G => n ≤ xs.length ∧ Keep (isD q.d) H1 G ∧ ∃ acc δi u, Ok K mg (q.withGo D acc) σ G env δi ∧ acc.length ≤ n ∧ lcD (tgName i) eYes fe (wipeE env vs) (xs.drop n) δi = some (u, δ') ∧ acc ++ u = l,
        ⟨Nat.zero_le _, .fresh hD, [], δ1, l, o2, Nat.le_refl _, ef, rfl⟩, fun n G w => SqL.of (w.2.1 a _ ha fun z => absurd (noT z rfl) hna), ?_, ?_⟩
      · rintro n G y hy ⟨hn, kk, acc, δi, u, k2, hal, el, eu⟩
        obtain ⟨x, hx, rx⟩ := ry.getV hy
        have hlt : n < xs.length := by
          rcases Nat.lt_or_ge n xs.length with h | h
          · exact h
          · rw [List.getElem?_eq_none h] at hx; cases hx
        rw [List.drop_eq_getElem_cons hlt] at el
        have ex : xs[n] = x := by rw [List.getElem?_eq_getElem hlt] at hx; exact Option.some.inj hx
        rw [ex] at el
        have rx2 : Rp K mg q.d (NN (q.withGo D acc) (wipe σ vs) (wipeE env vs)) G y x := by
          have kw : Keep (NN q σ env) H1 G := kk.weak fun b z => .inl (k.dm b z)
          refine Rp.keep kw (fun b z => ?_) _ _ rx
          rcases z with z | ⟨l', z⟩ | ⟨j, l', z1, z2⟩
          · exact .inl (.inl z)
          · rcases List.mem_cons.mp z with z | z
            · cases z; exact .inr hD
            · exact .inl (.inr (.inl ⟨l', z⟩))
          · rw [get_wipeE] at z1
            rw [get_wipe] at z2
            by_cases hj : j ∈ vs
            · rw [if_pos hj] at z1
              split at z1 <;> cases z1
            · rw [if_neg hj] at z1 z2
              exact .inl (.inr (.inr ⟨j, l', z1, z2⟩))
        unfold lcD at el
        have k3w := k2.wiped vs
        refine rg_name (K := K) (mg := mg) i (q.withGo D acc) (wipe σ vs) G (wipeE env vs) δi y x _ (fun σ2 H2 => te σ2 H2 _) k3w rx2 rfl fun σ2 a1 a2 k4 => ?_
        simp only [tgName, eYes, Option.bind_some, if_true] at el
        cases e4 : fe ((wipeE env vs).set i (.val x)) δi with
        | none => rw [e4] at el; cases el
        | some r4 =>
          obtain ⟨yy, δ4⟩ := r4
          rw [e4] at el
          simp only [Option.bind_some] at el
          cases e5 : lcD (tgName i) eYes fe (wipeE env vs) (xs.drop (n + 1)) δ4 with
          | none => rw [e5] at el; cases el
          | some r5 =>
            obtain ⟨uu, δ5⟩ := r5
            rw [e5] at el
            cases el
            refine he _ σ2 G _ δi yy δ4 _ k4 e4 fun w H5 k6 o6 r6 => ?_
            have k7 : Ok K mg (q.withGo D acc) σ H5 env δ4 := k2.step k6 o6.dc
            obtain ⟨_, ⟨ws, g3, gr⟩, _⟩ := k7.go D acc List.mem_cons_self
            have hs1 : ∀ j ∈ [i], j ∈ vs := fun j hj => by
              rcases List.mem_cons.mp hj with rfl | hj
              · exact hv
              · cases hj
            have r7 : Rp K mg q.d (NN (q.withGo D acc) σ env) H5 w yy := Rp.keep .refl (fun b z => .inl (nn_back hw hs1 a1 a2 z)) _ _ r6
            refine ⟨ws, g3, by rw [gr.length]; exact lt_line (by omega), ?_⟩
            have k8 := k7.growGo hDq g3 r7
            refine ⟨hlt, ?_, acc ++ [yy], δ4, uu, k8, by simp; omega, e5, by simp [eu]⟩
            exact (kk.trans k6).off hD g3 rfl rfl
      · rintro G ⟨hn, kk, acc, δi, u, k2, hal, el, eu⟩
        rw [ry.length, List.drop_length] at el
        cases el
        rw [List.append_nil] at eu
        subst eu
        exact kq D G (k1.trans kk) hDq k2
    | _ => cases ef
end
section
variable {X : Cx} {elt tg iter : Expr} {scope : Scope} {own : List (Str × Nat)} {pos : Pos} {ti te : TE} {fi fe : E} {i : Nat} {p : Addr × Obj}
theorem d_lcH (hot : L2H.Hot1 X.A p) (hp : p ∈ X.pn) (hN : X.N.Nodup) (hi : DE X iter ti fi) (ok : BlkOk X.N X.env.scope scope own)
    (hg : ∀ (u : Shared) (G : Hp) (C : Addr) (cl : List (Str × Addr)) (fp : List Addr), PG (X.blk u G scope (compEnvC scope cl C X.env) fp) tg (gName i))
    (he : ∀ (u : Shared) (G : Hp) (C : Addr) (cl : List (Str × Addr)) (fp : List Addr), DS (X.blk u G scope (compEnvC scope cl C X.env) fp) elt te fe) (hiv : i ∈ own.map (·.2)) (hs : ∀ z, foldedSetIterable iter X.env z = pure z := by intro _; rfl) :
    DF X (.ListComp elt [⟨tg, iter, [], 0⟩] scope pos) (tLcH X.K ti i te (own.map (·.2))) (fLc (iLst fi) (tgName i) eYes fe (own.map (·.2))) := by
  have he0 : RS X.K X.mg te fe := (he X.s_0 X.H_0 0 [] []).r
  exact ⟨pe_lcH hot hp hN hi.p ok hg (fun u G C cl fp => (he u G C cl fp).p) hiv hs, rf_lcH hi.r he0 hiv⟩
end
end Dl

/-! A def called while the exception p is handled, p known to it. -/
namespace Dl
open PySem PySem.Spec L2 L2H PyProof.Rows
section
variable {K : PySem.W.Frag} {mg : Str → Option Value} {N ps : List Str} {sc : Scope} {d : Option Addr} {M : Addr → Prop} {H : Hp} {vs : List V} {xs : List Dat} {δ : List Int}
abbrev fm0 (d : Option Addr) (M : Addr → Prop) (H : Hp) : Fm := ⟨d, M, H, [], [], [], fun _ => True⟩
/-- a frame begins -/
theorem ok_start (S : FnScope N ps sc) (hd : ∀ a, d = some a → M a) (hM : ∀ b, M b → H b ≠ none) (hdc : DiceAt d H δ) (r : RpA K mg d M H vs xs) (hl : xs.length = ps.length) : Ok K mg (fm0 d M H) (L2.start N vs) H (startE N xs) δ := by
  have hpl : ps.length ≤ N.length := by have := congrArg List.length S.pre; rw [List.length_take] at this; omega
  have nn : ∀ b, NN (fm0 d M H) (L2.start N vs) (startE N xs) b → M b := fun b z => by
    rcases z with z | ⟨l, z⟩ | ⟨i, l, z, _⟩
    · exact z
    · cases z
    · exact absurd z startE_own
  have hN : ∀ b, NN (fm0 d M H) (L2.start N vs) (startE N xs) b → M b ∨ H b = none := fun b z => .inl (nn b z)
  refine ⟨.refl, hdc, hd, hM, ?_, fun _ _ _ _ _ => trivial, fun i x e => ?_, fun i l e => absurd e startE_own, fun i j l l' a e => absurd e startE_own, .nil, fun a l e => ?_⟩
  · unfold L2.start startE
    simp [r.length]
  · unfold startE at e
    by_cases hi : i < xs.length
    · rw [List.getElem?_append_left (by simpa using hi), List.getElem?_map] at e
      cases q : xs[i]? with
      | none => rw [q] at e; cases e
      | some x' =>
        rw [q] at e
        cases e
        obtain ⟨v, e1, r1⟩ := r.get q
        refine ⟨v, ?_, Rp.keep .refl hN _ _ r1⟩
        unfold L2.start
        rw [List.getElem?_append_left (by rw [List.length_map, r.length]; exact hi), List.getElem?_map, e1]
        rfl
    · rw [List.getElem?_append_right (by simpa using hi)] at e
      have := List.eq_of_mem_replicate (List.mem_of_getElem? e)
      cases this
  · cases e
theorem start_g {t : TS} {g : Sg} {Q : VK} {E : XK} (S : FnScope N ps sc) (T : RSt K mg t g) (h : spG K mg ps.length (runG N g) vs H Q E) : t { nx := fun _ H' => Q .non H', rt := Q } (L2.start N vs) H := by
  obtain ⟨d, M, xs, δ, y, δ', hl, hd, hM, hdc, r, hG, hQ⟩ := h
  have k0 := ok_start S hd hM hdc r hl
  unfold runG at hG
  cases e1 : g (startE N xs) δ with
  | none => rw [e1] at hG; cases hG
  | some o =>
    rw [e1] at hG
    refine T (fm0 d M H) (L2.start N vs) H (startE N xs) δ o _ k0 e1 ?_
    cases o with
    | rt x δ1 =>
      cases hG
      exact fun v H' k1 d1 r1 => hQ v H' k1 d1 r1
    | nx env1 δ1 =>
      cases hG
      exact fun σ' H' k1 => hQ _ H' k1.kp k1.dc .non
    | bk _ _ => cases hG
    | ct _ _ => cases hG
end
abbrev cxE (P : Program) (w : World) (K : PySem.W.Frag) (mg : Str → Option Value) (base : Heap) (N : List Str) (x : Str) (st : Stmt) (f : Addr) (cdv : Value) (A : Around) (outer : List Env) (s : Shared) (H : Hp) (p : Addr × Obj) : Cx :=
  cxH CX0 P w K mg base N x (defScope st) f cdv A outer s H E0 p
section
variable {P : Program} {w : World} {K : PySem.W.Frag} {mg : Str → Option Value} {base : Heap} {k : Nat} {f : Addr} {fd : FuncData} {x : Str} {st : Stmt} {N ps : List Str} {t : TS} {p : Addr × Obj}
theorem run_hot (F : Fun K x x st f fd) (S : FnScope N ps (defScope st)) {A : Around} {outer : List Env} {s : Shared} {H : Hp} {args : Args} {us : List Value} {vs : List V} {Q : VK}
    (room : RoomH (k + 1) A) (hot : Hot1 A p) (stands : PinOk outer H s p) (around : Env0 P w K mg base A outer s H) (binds : BindsTo s fd args (ps.zip us)) (rel : Vals vs us) (len : vs.length = ps.length)
    (body : ∀ cdv : Value, ∃ t, PSs (cxE P w K mg base N x st f cdv A outer s H p) (defBody st) t ∧ t { nx := fun _ H' => Q .non H', rt := Q } (L2.start N vs) H) :
    codeAny (model P w) A (.call (.ref f) args) (CR CX0 outer P w H s Q E0) s := by
  obtain ⟨oc, od, kV, doc, pm, an, cdv, ct, osl, rfl, lk, code⟩ := F.ex
  obtain ⟨t, ht, hq⟩ := body cdv
  have KX : K.In s.heap := around.mod.kin.keeps fun b o e => (around.bs b o e).1
  have lim : s.heap.NoLimit := around.mod.nolimit.keeps fun b o e => (around.bs b o e).1
  refine codeAny_call_function room.depth (KX _ _ lk) rfl S.co S.gen rfl (PySem.W.codeRec_of KX code) (binds _ _ _ _ (wpAny_newFunctionEnv_cells S.kind ?kinds ?rest))
  case kinds =>
    rintro ⟨n, v⟩ hy
    rcases S.par n (List.of_mem_zip hy).1 with q | q
    · exact .inl q
    · exact .inr ⟨q, PySem.W.cellsFrom_some _ _ _ (.inl q)⟩
  case rest =>
    rintro env rfl s1 made
    refine ⟨lim.keeps made.toInCall.keep, codeAny_func ?_⟩
    have I := inv_startH (CX := CX0) (E := E0) S stands around len rel made
    refine wpAny_mono (ht.run [] s1 (L2.start N vs) H _ I hq) ?_ fun _ _ z => z
    intro fl s' hs
    cases fl with
    | ret u =>
      obtain ⟨v, σ', H', J, rv, q⟩ := hs
      exact ⟨v, H', J.os, J.bare, J.base, J.hok, rv, q⟩
    | next =>
      obtain ⟨σ', H', J, q⟩ := hs
      exact ⟨.non, H', J.os, J.bare, J.base, J.hok, rfl, q⟩
    | brk => exact hs.choose_spec.choose_spec.2.elim
    | cont => exact hs.choose_spec.choose_spec.2.elim
end
section
variable {X : Cx} {k : Nat} {f : Addr} {fd : FuncData} {x : Str} {st : Stmt} {N ps : List Str} {p : Addr × Obj} {q pos : Pos} {e : Expr} {es : List Expr} {tr : TA} {fr : EA} {g : Sg}
theorem d_callHp (F : Has X.K X.mg x st ps f fd) (S : FnScope N ps (defScope st)) (hr : RoomH (k + 1) X.A) (hot : Hot1 X.A p) (hp : p ∈ X.pn) (hg : Gl X x)
    (hb : ∀ (cdv : Value) (A : Around) (outer : List Env) (s : Shared) (H : Hp), Hot1 A p → RoomH k (A.deeper (envOfC x (defScope st) s.heap.objs.size f cdv)) → ∃ t, DSs (cxE X.prog X.w X.K X.mg X.base N x st f cdv A outer s H p) (defBody st) t g)
    (ha : DA X (e :: es) tr fr) (hdb : (x == ("__debug__" : Str)) = false := by decide) (he : starEach (e :: es) X.env = (false, eval e X.env) :: starEach es X.env := by rfl) (hpl : (backTo pos (starEach es X.env)).any (·.1) = false := by rfl) :
    DS X (.Call (.Name x q) (e :: es) [] pos) (tCall (spG X.K X.mg ps.length (runG N g)) [] E0 tr) (eCall (runG N g) ps.length fr) := by
  refine ⟨⟨fun pins s σ H Q I h => ?_⟩, re_call ha.r⟩
  refine wpAny_Call_Name_kw (ld_glob I hg F.m ?_ hdb)
  refine PySem.W.callWith_K (h₀ := X.base) I.ok.mod.kin F.F.kp (thn (ha.p.run pos pins s σ H _ I h) fun us s1 hh => ?_) he hpl
  obtain ⟨vs, H1, I1, rel, hsp⟩ := hh
  rw [List.append_nil] at hsp
  refine ⟨I1.kIn, ?_⟩
  have hv : vs.length = ps.length := by
    obtain ⟨d, M, xs, δ, y, δ', hl, _, _, _, r, _⟩ := hsp
    rw [r.length, hl]
  have hl : us.length = ps.length := by rw [← rel.length]; exact hv
  have b := F.b s1 us I1.kIn (by rw [List.append_nil]; exact hl)
  rw [List.append_nil] at b
  obtain ⟨z1, z2, z3, z4, z5⟩ := I1.pin p (List.mem_append_left _ hp)
  have stands : PinOk X.stack H1 s1 p := ⟨z1, z2, fun m => (List.mem_cons.mp (I1.stkSub p.1 m)).elim z3 z4, z5⟩
  refine wpAny_call (codeAny_mono (run_hot (Q := Q) F.F S hr hot stands I1.env0 b rel hv fun cdv => ?_) fun r s' hq => ?_)
  · obtain ⟨t, T⟩ := hb cdv X.A X.stack s1 H1 hot (hr.deeper _)
    exact ⟨t, T.p, start_g S T.r hsp⟩
  · match r, hq with
    | .ok (.ret u), c => exact I1.after c
    | .ok .next, c => exact False.elim c
    | .ok .brk, c => exact False.elim c
    | .ok .cont, c => exact False.elim c
    | .error _, c => exact False.elim c
end
end Dl

/-! isinstance of the exception that is handled; == while it is handled. -/
namespace Dl
open PySem PySem.Spec L2 L2H PyProof.Rows
/-- e is the exception at a: is it of the class? -/
def eIsE (a : Addr) (b : Bool) (f : E) : E := fun env δ => (f env δ).bind fun r => match r.1 with
  | .cst (.ref c) => if c = a then some (.bl b, r.2) else none
  | _ => none
/-- the name cn stands for a class; an exception of class D is of it: b -/
structure IsC (K : PySem.W.Frag) (mg : Str → Option Value) (D : Addr) (cn : Str) (cv : V) (b : Bool) : Prop where
  ex : ∃ c : Value, RelV cv c ∧ (∀ u, RelV cv u → u = c) ∧ PySem.W.kitOne K (.ref D) c = some b ∧ (mg cn = some c ∨ (mg cn = none ∧ bootBuiltins cn = some c ∧ cn ≠ "__name__")) ∧ (cn == ("__debug__" : Str)) = false
section
variable {X : Cx} {D : Addr} {p : Addr × Obj} {e a b : Expr} {te ta tb : TE} {fe f g : E} {cn : Str} {cv : V} {bb : Bool} {q1 q2 pos : Pos}
theorem IsC.pe (h : IsC X.K X.mg D cn cv bb) (hg : Gl X cn) : PE X (.Name cn q2) (tC cv) := by
  obtain ⟨c, hr, hu, hk, hm | ⟨h1, h2, h3⟩, hd⟩ := h.ex
  · exact ⟨fun _ _ _ H _ I w => ld_glob I hg hm ⟨cv, H, I, hr, w⟩ hd⟩
  · exact pe_bltn hg h1 h2 hr h3 hd
theorem call_isX (hp : p ∈ X.pn) (C : ExcC X.K D) (hz : Zc (.ref D) none p.2) (hf : ∃ vs, p.2.data = .fields vs) : CallR X (.builtin "isinstance") (rIsE X.K D p.1) := by
  rintro pins s σ H xs us Q I rel ⟨c, w, bl, rfl, same, ans, fin⟩
  have gets := (I.pin p (List.mem_append_left _ hp)).1
  have inst : PySem.W.InstAt s.heap p.1 p.2 D none := by
    obtain ⟨ad, oc, od, dt, sl⟩ := p
    obtain ⟨e1, e2⟩ := hz
    obtain ⟨vs, e3⟩ := hf
    have e1 : oc = .ref D := e1
    have e2 : od = none := e2
    have e3 : dt = .fields vs := e3
    subst e1; subst e2; subst e3
    exact ⟨gets, rfl, rfl, trivial⟩
  have kit := PySem.W.handS_kitx_exc (x := p.1) (ox := p.2) C.hg C.hk C.hs C.hd C.ha C.hn C.ht C.hm
  match us, rel with
  | _, .cons r1 (.cons r2 .nil) =>
    have r1 : _ = Value.ref p.1 := r1
    subst r1
    rw [same _ r2]
    exact PySem.W.kia_one kit I.kIn inst ans (by intro z; cases z) fun tk => ⟨.bl bl, H, I.kept (t' := tk) fun _ _ z => z, rfl, fin⟩
theorem d_isE (hp : p ∈ X.pn) (C : ExcC X.K D) (hz : Zc (.ref D) none p.2) (hf : ∃ vs, p.2.data = .fields vs) (he : DE X e te fe) (hg : Gl X "isinstance") (hm : X.mg "isinstance" = none) (hgC : Gl X cn) (hC : IsC X.K X.mg D cn cv bb)
    (hs1 : starEach [e, .Name cn q2] X.env = (false, eval e X.env) :: starEach [.Name cn q2] X.env := by rfl) (hs2 : starEach [.Name cn q2] X.env = (false, eval (.Name cn q2) X.env) :: starEach [] X.env := by rfl) (hpl : (backTo pos (starEach [.Name cn q2] X.env)).any (·.1) = false := by rfl) :
    DS X (.Call (.Name "isinstance" q1) [e, .Name cn q2] [] pos) (tCB (rIsE X.K D p.1) (tCons te (tCons (tC cv) tNil))) (eIsE p.1 bb fe) := by
  refine ⟨pe_callB (call_isX hp C hz hf) hg hm boot_isinstance (pa_cons he.p (pa_cons (hC.pe hgC) pa_nil hs2) hs1) (by decide) (by decide) hs1 hpl, fun q σ H env δ z δ' Q k ef kq => ?_⟩
  unfold eIsE at ef
  cases e1 : fe env δ with
  | none => rw [e1] at ef; cases ef
  | some r1 =>
    obtain ⟨x, δ1⟩ := r1
    rw [e1] at ef
    simp only [Option.bind_some] at ef
    split at ef
    rotate_left
    · cases ef
    rename_i c ex
    split at ef
    rotate_left
    · cases ef
    rename_i ec
    cases ef
    subst ex
    refine he.r q σ H env δ _ _ _ k e1 fun v H1 k1 o1 r1 => ?_
    cases r1
    obtain ⟨w, hr, hu, hk, _, _⟩ := hC.ex
    exact ⟨cv, w, bb, rfl, hu, hk, kq _ H1 k1 o1 (.bl _)⟩
theorem d_eqU (u : X.A.units + 64 < cLine) (ha : DE X a ta f) (hb : DE X b tb g) : DS X (.Compare a [.Eq] [b] pos) (tOp (rEqD X.K) ta tb) (eOp dEq f g) := d_cmp (op_eqD u) ref_eq ha hb (nomark _)
end
end Dl

/-! A def that raises, by data; a try around a call of it. -/
namespace Dl
open PySem PySem.Spec L2 PyProof.Rows
/-- where R, the def raises an exception of class c without a dict -/
def spX (K : PySem.W.Frag) (mg : Str → Option Value) (n : Nat) (c : Value) (R : List Dat → List Int → List Int → Prop) : Sp := fun vs H _ E => ∃ (d : Option Addr) (N : Addr → Prop) (xs : List Dat) (δ δ' : List Int),
  xs.length = n ∧ (∀ a, d = some a → N a) ∧ (∀ b, N b → H b ≠ none) ∧ DiceAt d H δ ∧ RpA K mg d N H vs xs ∧ R xs δ δ' ∧ ∀ H', Keep (isD d) H H' → DiceAt d H' δ' → E c none H'
theorem spX_len {K : PySem.W.Frag} {mg : Str → Option Value} {n : Nat} {c : Value} {R : List Dat → List Int → List Int → Prop} {vs : List V} {H : Hp} {Q : VK} {E : XK} (h : spX K mg n c R vs H Q E) : vs.length = n := by
  obtain ⟨d, M, xs, δ, δ', hl, _, _, _, r, _⟩ := h
  rw [r.length, hl]
abbrev OkX (P : Program) (w : World) (K : PySem.W.Frag) (mg : Str → Option Value) (base : Heap) (k : Nat) (nm : Str) (ps : List Str) (c : Value) (R : List Dat → List Int → List Int → Prop) : Prop :=
  ∃ (f : Addr) (fd : FuncData), mg nm = some (.ref f) ∧ PySem.W.keepIn K (.ref f) = true ∧ Binds K fd ps [] ∧ FnOk P w K mg base (L2N.CX P w) k f fd ps (spX K mg ps.length c R)
section
variable {P : Program} {w : World} {K : PySem.W.Frag} {mg : Str → Option Value} {base : Heap} {k : Nat} {f : Addr} {fd : FuncData} {x : Str} {st st1 : Stmt} {rest : List Stmt} {N ps : List Str} {c re : Expr} {rpos ipos : Pos} {cls : Value} {g1 : Sg} {fc : ET}
/-- the second statement is «if c: raise e» -/
theorem Has.okX (h : Has K mg x st ps f fd) (S : FnScope N ps (defScope st)) (body : defBody st = st1 :: .If c [.Raise (some re) none rpos] [] ipos :: rest)
    (hb : ∀ (cdv : Value) (A : Around) (outer : List Env) (s : Shared) (H : Hp) (E : XK), Room k (A.deeper (envOfC x (defScope st) s.heap.objs.size f cdv)) →
      ∃ t1 tc tr, DSt (cxOf (L2N.CX P w) P w K mg base N x (defScope st) f cdv A outer s H E) st1 t1 g1 ∧ DT (cxOf (L2N.CX P w) P w K mg base N x (defScope st) f cdv A outer s H E) c tc fc ∧
        L2N.PMk (cxOf (L2N.CX P w) P w K mg base N x (defScope st) f cdv A outer s H E) re (fun _ H Q => Q cls none H) ∧ PSs (cxOf (L2N.CX P w) P w K mg base N x (defScope st) f cdv A outer s H E) rest tr) :
    OkX P w K mg base (k + 1) x ps cls (fun xs δ δ' => ∃ env1 δ1, g1 (startE N xs) δ = some (.nx env1 δ1) ∧ fc env1 δ1 = some (true, δ')) := by
  refine ⟨f, fd, h.m, h.F.kp, h.b, ?_⟩
  obtain ⟨oc, od, kV, doc, pm, an, cdv, ct, osl, rfl, lk, hcd⟩ := h.F.ex
  refine fn_of lk hcd S (fun vs H Q E hh => spX_len hh) fun A outer s H vs Q E hr hsp => ?_
  obtain ⟨d, M, xs, δ, δ', hl, hd, hM, hdc, r, ⟨env1, δ1, e1, e2⟩, fin⟩ := hsp
  obtain ⟨t1, tc, tr, T1, Tc, Tm, TR⟩ := hb cdv A outer s H E hr
  rw [body]
  refine ⟨_, pss_cons T1.p (pss_cons (ps_if Tc.p (pss_one (L2N.ps_raise rfl (L2N.takes_of rfl rfl rfl rfl) Tm)) pss_nil) TR), ?_⟩
  refine T1.r (fm0 d M H) (L2.start N vs) H (startE N xs) δ _ _ (ok_start S hd hM hdc r hl) e1 fun σ1 H1 k1 => ?_
  refine Tc.r (fm0 d M H) σ1 H1 env1 δ1 true δ' _ k1 e2 fun H2 kk k2 => ?_
  rw [if_pos rfl]
  exact fin H2 k2.kp k2.dc
end
open Classical in
/-- a call that raises, within a try whose suite returns y -/
noncomputable def gTryX (i : Nat) (fr : EA) (n : Nat) (R : List Dat → List Int → List Int → Prop) (y : Dat) : Sg := fun env δ => match fr env δ with
  | some (xs, δ1) => if xs.length = n ∧ i < env.length ∧ R xs δ1 δ1 then some (.rt y δ1) else none
  | none => none
theorem gTryX_s {i n : Nat} {fr : EA} {R : List Dat → List Int → List Int → Prop} {y : Dat} {env : Ev} {δ : List Int} {xs : List Dat} (h : fr env δ = some (xs, δ)) (hl : xs.length = n) (hi : i < env.length) (hR : R xs δ δ) : gTryX i fr n R y env δ = some (.rt y δ) := by
  unfold gTryX
  rw [h]
  exact if_pos ⟨hl, hi, hR⟩
section
variable {X : Cx} {n xn nm : Str} {cv cls : Value} {i kk : Nat} {b0 : Stmt} {suite : List Stmt} {e : Expr} {es : List Expr} {ps : List Str} {R : List Dat → List Int → List Int → Prop} {tr : TA} {fr : EA} {y : Dat} {p np cpos epos pos pos' : Pos} {tsu : Addr → TS} {gsu : Addr → Sg}
abbrev tsuX (cls : Value) (tsu : Addr → TS) : Addr → Value → Option Addr → TS := fun a c d D σ H => c = cls ∧ d = none ∧ tsu a D σ H
theorem d_tryX (hs : X.stack = X.env :: X.outer) (hf : X.env.frame = some X.env.locals) (hN : X.N.Nodup) (hi : X.N[i]? = some n) (hln : X.env.kindOf n = some .local) (hc : Names X xn cv) (hm : PySem.W.exmOne X.K cls cv = some true)
    (C : OkX X.prog X.w X.K X.mg X.base kk nm ps cls R) (hr : Room kk X.A) (hg : Gl X nm) (ha : ∀ (pn : List (Addr × Obj)) (xe : Value → Shared → Prop), DA (X.tr pn xe) (e :: es) tr fr)
    (hsu : ∀ (a : Addr) (oe : Obj) (pn : List (Addr × Obj)), L2N.Zn cls none oe → (∃ vs, oe.data = .fields vs) → DSs (X.suite a ((a, oe) :: pn)) (b0 :: suite) (tsu a) (gsu a))
    (hy : ∀ (a : Addr) (env : Ev) (δ : List Int), i < env.length → gsu a (env.set i (.val (.cst (.ref a)))) δ = some (.rt y δ)) (hnm : (nm == ("__debug__" : Str)) = false := by decide)
    (he : starEach (e :: es) X.env = (false, eval e X.env) :: starEach es X.env := by rfl) (hpl : (backTo cpos (starEach es X.env)).any (·.1) = false := by rfl) (hsw : swapsWith (.Call (.Name nm p) (e :: es) [] cpos) none epos.line X.env = pure false := by rfl) :
    DSt X (.Try [.Expr (.Call (.Name nm p) (e :: es) [] cpos) epos] [.ExceptHandler (some (.Name xn np)) (some n) (b0 :: suite) pos'] [] [] pos)
      (fun D σ H => tDrop (tCallS (spX X.K X.mg ps.length cls R) (WE (wAs X.K cv i (tsuX cls tsu) (fun _ _ _ _ => False) D)) tr) D σ H) (gTryX i fr ps.length R y) := by
  obtain ⟨f, fd, h1, h2, h3, F⟩ := C
  refine ⟨L2N.ps_try_as (tb := fun W => tDrop (tCallS (spX X.K X.mg ps.length cls R) (WE W) tr)) (ts := tsuX cls tsu) hs hf hN hi hln hc (fun _ _ x => ?_) (fun W pn xe tk _ => ?_) (fun a oe c d pn hz hd => ?_), ?_⟩
  · obtain ⟨_, _, _, _, _, _, _, _, _, _, _, _, _, _, _, _, z⟩ := x
    exact z.elim
  · exact pss_one (ps_expr (pe_callS (X := X.tr pn xe) F hr hg h1 h2 h3 (fun σ => L2N.passAt tk σ) (ha pn xe).p hnm he hpl) hsw)
  · refine ⟨fun pins s σ H D I h => ?_⟩
    obtain ⟨rfl, rfl, h⟩ := h
    exact (hsu a oe pn hz hd).p.run pins s σ H D I h
  · intro q σ H env δ o D k ef ko
    have har : RA X.K X.mg tr fr := (ha [] fun _ _ => False).r
    have hsr : ∀ a, RSt X.K X.mg (tsu a) (gsu a) := fun a => (hsu a ⟨cls, none, .fields #[.none, .none, .none], #[]⟩ [] ⟨rfl, rfl, fun vs e => by cases e; rfl⟩ ⟨_, rfl⟩).r
    unfold gTryX at ef
    cases e1 : fr env δ with
    | none => rw [e1] at ef; cases ef
    | some r1 =>
      obtain ⟨xs, δ1⟩ := r1
      rw [e1] at ef
      simp only at ef
      split at ef
      rotate_left
      · cases ef
      rename_i cond
      obtain ⟨hl, hlt, hR⟩ := cond
      cases ef
      refine har q σ H env δ xs δ1 _ k e1 fun vs H1 k1 o1 r1 => ?_
      refine ⟨q.d, NN q σ env, xs, δ1, δ1, hl, o1.dn, fun b => o1.nn, o1.dc, r1, hR, fun H2 k2 d2 => ?_⟩
      refine ⟨true, hm, fun _ a na => ⟨rfl, rfl, ?_⟩, fun z => Bool.noConfusion z⟩
      have o2 : Ok X.K X.mg q σ H2 env δ1 := o1.step k2 d2
      exact hsr a q _ H2 _ δ1 _ _ (o2.set i (.cst (.ref a))) (hy a env δ1 hlt) ko
end
end Dl

/-! try: f(..) .. except C: pass, where f raises. -/
namespace Dl
open PySem PySem.Spec L2 PyProof.Rows
open Classical in
noncomputable def gTryP (fr : EA) (n : Nat) (R : List Dat → List Int → List Int → Prop) : Sg := fun env δ => match fr env δ with
  | some (xs, δ1) => if xs.length = n ∧ R xs δ1 δ1 then some (.nx env δ1) else none
  | none => none
theorem gTryP_s {n : Nat} {fr : EA} {R : List Dat → List Int → List Int → Prop} {env : Ev} {δ : List Int} {xs : List Dat} (h : fr env δ = some (xs, δ)) (hl : xs.length = n) (hR : R xs δ δ) : gTryP fr n R env δ = some (.nx env δ) := by
  unfold gTryP
  rw [h]
  exact if_pos ⟨hl, hR⟩
section
variable {X : Cx} {xn nm : Str} {cv cls : Value} {kk : Nat} {rest : List Stmt} {e : Expr} {es : List Expr} {ps : List Str} {R : List Dat → List Int → List Int → Prop} {tr : TA} {fr : EA} {p np cpos epos pos pos' ppos : Pos} {trest : TS}
def tPassX : Addr → Value → Option Addr → TS := fun _ _ _ => tNext
theorem d_tryP (hs : X.stack = X.env :: X.outer) (hf : X.env.frame = some X.env.locals) (hc : Names X xn cv) (hm : PySem.W.exmOne X.K cls cv = some true)
    (C : OkX X.prog X.w X.K X.mg X.base kk nm ps cls R) (hr : Room kk X.A) (hg : Gl X nm) (ha : ∀ (pn : List (Addr × Obj)) (xe : Value → Shared → Prop), DA (X.tr pn xe) (e :: es) tr fr)
    (hrest : ∀ (pn : List (Addr × Obj)) (xe : Value → Shared → Prop), PSs (X.tr pn xe) rest trest) (hnm : (nm == ("__debug__" : Str)) = false := by decide)
    (he : starEach (e :: es) X.env = (false, eval e X.env) :: starEach es X.env := by rfl) (hpl : (backTo cpos (starEach es X.env)).any (·.1) = false := by rfl) (hsw : swapsWith (.Call (.Name nm p) (e :: es) [] cpos) none epos.line X.env = pure false := by rfl) :
    DSt X (.Try (.Expr (.Call (.Name nm p) (e :: es) [] cpos) epos :: rest) [.ExceptHandler (some (.Name xn np)) none [.Pass ppos] pos'] [] [] pos)
      (fun D σ H => tSeq (tDrop (tCallS (spX X.K X.mg ps.length cls R) (WE (wMany X.K (fun _ _ _ _ => False) D [(cv, tPassX)])) tr)) trest D σ H) (gTryP fr ps.length R) := by
  obtain ⟨f, fd, h1, h2, h3, F⟩ := C
  refine ⟨L2N.ps_try_many (tb := fun W => tSeq (tDrop (tCallS (spX X.K X.mg ps.length cls R) (WE W) tr)) trest) (l := [(cv, tPassX)]) hs hf (fun _ _ x => ?_) (fun W pn xe tk _ => ?_) (.cons hc (fun a oe c d pn hz hd => pss_one ps_pass) .nil), ?_⟩
  · obtain ⟨_, _, _, _, _, _, _, _, _, _, _, _, _, _, _, _, z⟩ := x
    exact z.elim
  · exact pss_cons (ps_expr (pe_callS (X := X.tr pn xe) F hr hg h1 h2 h3 (fun σ => L2N.passAt tk σ) (ha pn xe).p hnm he hpl) hsw) (hrest pn xe)
  · intro q σ H env δ o D k ef ko
    have har : RA X.K X.mg tr fr := (ha [] fun _ _ => False).r
    unfold gTryP at ef
    cases e1 : fr env δ with
    | none => rw [e1] at ef; cases ef
    | some r1 =>
      obtain ⟨xs, δ1⟩ := r1
      rw [e1] at ef
      simp only at ef
      split at ef
      rotate_left
      · cases ef
      rename_i cond
      obtain ⟨hl, hR⟩ := cond
      cases ef
      refine har q σ H env δ xs δ1 _ k e1 fun vs H1 k1 o1 r1 => ?_
      refine ⟨q.d, NN q σ env, xs, δ1, δ1, hl, o1.dn, fun b => o1.nn, o1.dc, r1, hR, fun H2 k2 d2 => ?_⟩
      refine ⟨true, hm, fun _ a na => ?_, fun z => Bool.noConfusion z⟩
      exact ko σ H2 (o1.step k2 d2)
end
end Dl

/-! len(set(l)), l a list of pairs: how many are different. -/
namespace Dl
open PySem PySem.Spec L2 PyProof.Rows
/-- each once -/
def onceP : List (Int × Int) → List (Int × Int)
  | [] => []
  | p :: r => if p ∈ r then onceP r else p :: onceP r
theorem mem_once {q : Int × Int} : ∀ {l : List (Int × Int)}, q ∈ onceP l ↔ q ∈ l
  | [] => Iff.rfl
  | p :: r => by
    unfold onceP
    split
    · rename_i h
      rw [mem_once, List.mem_cons]
      exact ⟨.inr, fun z => z.elim (fun e => e ▸ h) id⟩
    · rw [List.mem_cons, List.mem_cons, mem_once]
theorem nd_once : ∀ (l : List (Int × Int)), (onceP l).Nodup
  | [] => .nil
  | p :: r => by
    unfold onceP
    split
    · exact nd_once r
    · rename_i h
      exact List.nodup_cons.mpr ⟨fun z => h (mem_once.mp z), nd_once r⟩
theorem once_nd : ∀ {l : List (Int × Int)}, l.Nodup → onceP l = l
  | [], _ => rfl
  | p :: r, h => by
    obtain ⟨h1, h2⟩ := List.nodup_cons.mp h
    unfold onceP
    rw [if_neg h1, once_nd h2]
theorem len_le_of {l m : List (Int × Int)} (hl : l.Nodup) (h : ∀ x ∈ l, x ∈ m) : l.length ≤ m.length := by
  induction l generalizing m with
  | nil => exact Nat.zero_le _
  | cons x l ih =>
    obtain ⟨h1, h2⟩ := List.nodup_cons.mp hl
    have hx : x ∈ m := h x List.mem_cons_self
    have := ih (m := m.erase x) h2 fun y hy => (List.mem_erase_of_ne (fun (e : y = x) => h1 (e ▸ hy))).mpr (h y (List.mem_cons_of_mem _ hy))
    rw [List.length_erase_of_mem hx] at this
    have := List.length_pos_of_mem hx
    simp
    omega
theorem len_eq_of {l m : List (Int × Int)} (hl : l.Nodup) (hm : m.Nodup) (h : ∀ x, x ∈ l ↔ x ∈ m) : l.length = m.length :=
  Nat.le_antisymm (len_le_of hl fun x => (h x).mp) (len_le_of hm fun x => (h x).mpr)
def prM (p : Int × Int) : List Int := [p.1, p.2]
theorem prM_inj {p q : Int × Int} (h : prM p = prM q) : p = q := by
  unfold prM at h
  exact Prod.ext (List.cons.inj h).1 (List.cons.inj (List.cons.inj h).2).1
section
variable {X : Cx} {a : Expr} {ta : TE} {p p2 q pos : Pos} {K : PySem.W.Frag} {mg : Str → Option Value} {f : E}
def tLenSetT (K : PySem.W.Frag) (ta : TE) : TE := fun σ H Q => ta σ H fun x H1 => ∃ (l : Addr) (ks : List (Addr × List Int)), x = V.ref l ∧ SqL K H1 l (ks.map fun p => V.ref p.1) ∧ (∀ p ∈ ks, SqT K H1 p.1 (p.2.map V.int)) ∧ ks.length < 64 ∧
  ∀ L : List (List Int), L.Nodup → (∀ x, x ∈ L ↔ x ∈ ks.map (·.2)) → Q (.int L.length) H1
theorem pe_lenSetT (hc : X.calm = true) (hu : X.A.units + 64 < cLine) (hg : Gl X "len") (hm : X.mg "len" = none) (hg2 : Gl X "set") (hm2 : X.mg "set" = none) (ha : PE X a ta)
    (na : starEach [a] X.env = (false, eval a X.env) :: starEach [] X.env := by rfl) : PE X (.Call (.Name "len" p) [.Call (.Name "set" p2) [a] [] q] [] pos) (tLenSetT X.K ta) := by
  constructor
  intro pins s σ H Q I h
  refine Call_ (ld_blt I hg hm PySem.boot_len (callWith_builtin1 (args_cons ?inner rfl) rfl rfl))
  refine Call_ (ld_blt I hg2 hm2 boot_set (callWith_type1 (args_cons (thn (ha.run pins s σ H _ I h) ?made) na) na rfl))
  rintro v s1 ⟨x, H1, I1, r1, l, ks, rfl, hq, hk, few, fin⟩
  cases r1
  obtain ⟨its, r, pl, hz⟩ := I1.list hq
  refine args_nil (call_set_tups (P := X.prog) (w := X.w) ks (I1.ok.hd hc) pl.isList (by simpa using refs_of_vals r) (fun b hb => I1.isT (hk b hb)) few (by omega) fun h' tk L es ep t R g k => args_nil ?_)
  obtain ⟨o, ho, hex, hd⟩ := R.ob
  have I2 : Inv X pins σ H1 { s1 with heap := h', toks := tk } := I1.kept k
  have R' : SetTR X.prog X.w ({ s1 with heap := h', toks := tk } : Shared).heap s1.heap.objs.size L es ep t := R
  have es_len : es.size = L.length := R'.size
  have count := fin (L.map (·.2)) R.nd fun y => ⟨fun z => ?_, fun z => ?_⟩
  · rw [List.length_map, ← es_len] at count
    exact call_len_set ho hex hd R'.fits (by rw [es_len]; have := R.few; omega) ⟨.int es.size, H1, I2.tok _, ⟨_, rfl⟩, count⟩
  · obtain ⟨b, hb, rfl⟩ := List.mem_map.mp z
    exact List.mem_map.mpr ⟨b, List.mem_of_mem_take (g.sub b hb), rfl⟩
  · obtain ⟨b, hb, rfl⟩ := List.mem_map.mp z
    exact g.all b (by rw [List.take_length]; exact hb)
def dLenSet : Dat → Option Dat
  | .lst xs => (toP xs).bind fun ps => if ps.length < 64 then some (.int (onceP ps).length) else none
  | _ => none
def eLenSet (f : E) : E := fun env δ => (f env δ).bind fun r => (dLenSet r.1).map fun z => (z, r.2)
def adrV : V → Addr
  | .ref a => a
  | _ => 0
theorem re_lenSet (he : RE K mg ta f) : RS K mg (tLenSetT K ta) (eLenSet f) := by
  intro q σ H env δ z δ' Q k ef kq
  unfold eLenSet at ef
  cases e1 : f env δ with
  | none => rw [e1] at ef; cases ef
  | some r1 =>
    obtain ⟨x, δ1⟩ := r1
    rw [e1] at ef
    simp only [Option.bind_some] at ef
    cases x with
    | lst xs =>
      have ef : (((toP xs).bind fun ps => if ps.length < 64 then some (Dat.int (onceP ps).length) else none).map fun z => (z, δ1)) = some (z, δ') := ef
      cases e2 : toP xs with
      | none => rw [e2] at ef; cases ef
      | some ps =>
        rw [e2] at ef
        simp only [Option.bind_some] at ef
        split at ef
        rotate_left
        · cases ef
        rename_i hlt
        cases ef
        refine he q σ H env δ _ _ _ k e1 fun v H1 k1 o1 r1 => ?_
        obtain ⟨a, ws, rfl, ha, hna, ry⟩ := r1
        rw [of_toP e2] at ry
        obtain ⟨h6, h7⟩ := rpA_pairs ry
        have hks : (ws.map fun v => ((adrV v, prM (prAt H1 v)) : Addr × List Int)).map (fun p => V.ref p.1) = ws := by
          rw [List.map_map]
          refine (List.map_congr_left fun v hv => ?_).trans (List.map_id ws)
          obtain ⟨t, rfl, _⟩ := h6 v hv
          rfl
        have hps : (ws.map fun v => ((adrV v, prM (prAt H1 v)) : Addr × List Int)).map (·.2) = ps.map prM := by
          rw [List.map_map, ← h7, List.map_map]
          rfl
        refine ⟨a, ws.map fun v => (adrV v, prM (prAt H1 v)), rfl, by rw [hks]; exact .of ha, fun b hb => ?_, by rw [List.length_map, ← List.length_map (f := prAt H1), h7]; exact hlt, fun L nd same => ?_⟩
        · obtain ⟨v, hv, rfl⟩ := List.mem_map.mp hb
          obtain ⟨t, rfl, ht⟩ := h6 v hv
          exact .of ht
        · have e : L.length = (onceP ps).length := by
            have h1 : L.length = (L.map fun l => ((l.getD 0 0, l.getD 1 0) : Int × Int)).length := by rw [List.length_map]
            have inv : ∀ l ∈ L, ∃ p, p ∈ ps ∧ l = prM p := fun l hl => by
              have := (same l).mp hl
              rw [hps] at this
              obtain ⟨p, hp, e⟩ := List.mem_map.mp this
              exact ⟨p, hp, e.symm⟩
            rw [h1]
            refine len_eq_of ?_ (nd_once ps) fun p => ⟨fun hp => ?_, fun hp => ?_⟩
            · refine List.pairwise_map.mpr (List.Pairwise.imp_of_mem (fun {x y} hx hy hne z => hne ?_) nd)
              obtain ⟨p, _, rfl⟩ := inv x hx
              obtain ⟨q, _, rfl⟩ := inv y hy
              exact congrArg prM (show p = q from z)
            · obtain ⟨l, hl, rfl⟩ := List.mem_map.mp hp
              obtain ⟨p', hp', rfl⟩ := inv l hl
              exact mem_once.mpr hp'
            · refine List.mem_map.mpr ⟨prM p, (same _).mpr ?_, rfl⟩
              rw [hps]
              exact List.mem_map.mpr ⟨p, mem_once.mp hp, rfl⟩
          rw [e]
          exact kq _ H1 k1 o1 (.int _)
    | _ => cases ef
theorem d_lenSet (hc : X.calm = true) (hu : X.A.units + 64 < cLine) (hg : Gl X "len") (hm : X.mg "len" = none) (hg2 : Gl X "set") (hm2 : X.mg "set" = none) (ha : DE X a ta f)
    (na : starEach [a] X.env = (false, eval a X.env) :: starEach [] X.env := by rfl) : DS X (.Call (.Name "len" p) [.Call (.Name "set" p2) [a] [] q] [] pos) (tLenSetT X.K ta) (eLenSet f) :=
  ⟨pe_lenSetT hc hu hg hm hg2 hm2 ha.p na, re_lenSet ha.r⟩
theorem eLenSet_s {env : Ev} {δ δ1 : List Int} {l : List (Int × Int)} (h : f env δ = some (.lst (l.map pD), δ1)) (hl : l.length < 64) : eLenSet f env δ = some (.int (onceP l).length, δ1) := by
  unfold eLenSet dLenSet
  rw [h]
  simp [toP_pD, hl]
end
end Dl

/-! s.count(t) of texts. -/
namespace Dl
open PySem PySem.Spec L2 PyProof.Rows
section
variable {X : Cx} {a b : Expr} {ta tb : TE} {f g : E} {pos apos : Pos}
def dCount : Dat → Dat → Option Dat
  | .str a, .str b => some (.int (Txt.count a b))
  | _, _ => none
theorem d_count (ha : DE X a ta f) (hb : DE X b tb g) (hbase : attributeBase a "count" X.env (eval a X.env) = eval a X.env := by rfl)
    (hfew : ((backTo pos (starEach [b] X.env)).all (fun x => !x.1) && (backToKw pos (keywordEach [] X.env)).all (fun x => x.1.isSome)
      && decide (([b] : List Expr).length + ([] : List Keyword).length + (if ([] : List Keyword).isEmpty then 0 else 1) < 30)) = true := by rfl)
    (hline : (apos.endLine == pos.line) = true := by rfl) (hs : starEach [b] X.env = (false, eval b X.env) :: starEach [] X.env := by rfl) (hplain : (backTo pos (starEach [] X.env)).any (·.1) = false := by rfl) :
    DS X (.Call (.Attribute a "count" apos) [b] [] pos) (tBM X.K "str" (fun x xs H Q => ∃ a b, x = .str a ∧ xs = [.str b] ∧ Q (.int (Txt.count a b)) H) ta (tCons tb tNil)) (eOp dCount f g) := by
  refine ⟨pe_bm PySem.F.plainAttrs_str PySem.F.slot_str_count PySem.F.type_str_count mt_count ha.p (pa_cons hb.p pa_nil hs) hbase hfew hline hs hplain, fun q σ H env δ z δ' Q k ef kq => ?_⟩
  unfold eOp at ef
  cases e1 : f env δ with
  | none => rw [e1] at ef; cases ef
  | some r1 =>
    obtain ⟨x, δ1⟩ := r1
    rw [e1] at ef
    cases e2 : g env δ1 with
    | none => simp [e2] at ef
    | some r2 =>
      obtain ⟨y, δ2⟩ := r2
      simp only [Option.bind_some, e2] at ef
      cases x <;> cases y <;> first | (cases ef; done) | skip
      rename_i s u
      cases ef
      refine ha.r q σ H env δ _ δ1 _ k e1 fun v H1 k1 o1 r1 => ?_
      cases r1
      refine ⟨rfl, hb.r q σ H1 env δ1 _ _ _ o1 e2 fun w H2 k2 o2 r2 => ?_⟩
      cases r2
      exact ⟨s, u, rfl, rfl, kq _ H2 (k1.trans k2) o2 (.int _)⟩
end
end Dl

/-! Defs that may raise an own exception without a dict (class cls), by data: statements, loops, calls. -/
namespace Dl
open PySem PySem.Spec L2 PyProof.Rows
inductive OutX where
  | ok (o : Out) | rs (δ : List Int)
abbrev SgX := Ev → List Int → Option OutX
def EOkX (K : PySem.W.Frag) (mg : Str → Option Value) (q : Fm) (D : Ends) (E : XK) (cls : Value) : OutX → Prop
  | .ok o => EOk K mg q D o
  | .rs δ => ∀ H, Keep (isD q.d) q.H0 H → DiceAt q.d H δ → E cls none H
def RStX (K : PySem.W.Frag) (mg : Str → Option Value) (E : XK) (cls : Value) (t : TS) (g : SgX) : Prop := ∀ (q : Fm) (σ : L2.St) (H : Hp) (env : Ev) (δ : List Int) (o : OutX) (D : Ends), Ok K mg q σ H env δ → g env δ = some o → EOkX K mg q D E cls o → t D σ H
structure DStX (X : Cx) (E : XK) (cls : Value) (st : Stmt) (t : TS) (g : SgX) : Prop where
  p : PS X st t
  r : RStX X.K X.mg E cls t g
structure DSsX (X : Cx) (E : XK) (cls : Value) (st : List Stmt) (t : TS) (g : SgX) : Prop where
  p : PSs X st t
  r : RStX X.K X.mg E cls t g
section
variable {X : Cx} {E : XK} {cls : Value} {st : Stmt} {sts s1 s2 : List Stmt} {c e : Expr} {t u : TS} {tc : TT} {g : Sg} {g1 g2 gx : SgX} {fc : ET} {pos : Pos} {wi : TI} {fi : EA} {tg : Expr}
def liftX (g : Sg) : SgX := fun env δ => (g env δ).map .ok
theorem rx_lift {K : PySem.W.Frag} {mg : Str → Option Value} (h : RSt K mg t g) : RStX K mg E cls t (liftX g) := by
  intro q σ H env δ o D k ef ko
  unfold liftX at ef
  cases e1 : g env δ with
  | none => rw [e1] at ef; cases ef
  | some o1 =>
    rw [e1] at ef
    cases ef
    exact h q σ H env δ o1 D k e1 ko
theorem DSt.x (h : DSt X st t g) : DStX X E cls st t (liftX g) := ⟨h.p, rx_lift h.r⟩
theorem DSs.x (h : DSs X sts t g) : DSsX X E cls sts t (liftX g) := ⟨h.p, rx_lift h.r⟩
def gSeqX (g1 g2 : SgX) : SgX := fun env δ => (g1 env δ).bind fun o => match o with
  | .ok (.nx env' δ') => g2 env' δ'
  | o => some o
theorem dx_cons (h1 : DStX X E cls st t g1) (h2 : DSsX X E cls sts u g2) : DSsX X E cls (st :: sts) (tSeq t u) (gSeqX g1 g2) := by
  refine ⟨pss_cons h1.p h2.p, fun q σ H env δ o D k ef ko => ?_⟩
  unfold gSeqX at ef
  cases e1 : g1 env δ with
  | none => rw [e1] at ef; cases ef
  | some o1 =>
    rw [e1] at ef
    cases o1 with
    | rs δ' =>
      cases ef
      exact h1.r q σ H env δ _ { D with nx := u D } k e1 ko
    | ok o1 =>
      cases o1 with
      | nx env' δ' => exact h1.r q σ H env δ _ { D with nx := u D } k e1 fun σ' H' k' => h2.r q σ' H' env' δ' o D k' ef ko
      | rt x δ' =>
        cases ef
        exact h1.r q σ H env δ _ { D with nx := u D } k e1 ko
      | bk env' δ' =>
        cases ef
        exact h1.r q σ H env δ _ { D with nx := u D } k e1 ko
      | ct env' δ' =>
        cases ef
        exact h1.r q σ H env δ _ { D with nx := u D } k e1 ko
theorem dx_last (h : DStX X E cls st t gx) : DSsX X E cls [st] t gx := ⟨pss_one h.p, h.r⟩
theorem dx_nil : DSsX X E cls [] tNext (liftX gNext) := DSs.x d_nil
def gIfX (fc : ET) (g1 g2 : SgX) : SgX := fun env δ => (fc env δ).bind fun r => if r.1 = true then g1 env r.2 else g2 env r.2
theorem dx_if (hc : DT X c tc fc) (h1 : DSsX X E cls s1 t g1) (h2 : DSsX X E cls s2 u g2) : DStX X E cls (.If c s1 s2 pos) (tIfS tc t u) (gIfX fc g1 g2) := by
  refine ⟨ps_if hc.p h1.p h2.p, fun q σ H env δ o D k ef ko => ?_⟩
  unfold gIfX at ef
  cases e1 : fc env δ with
  | none => rw [e1] at ef; cases ef
  | some r1 =>
    obtain ⟨x, δ1⟩ := r1
    rw [e1] at ef
    refine hc.r q σ H env δ x δ1 _ k e1 fun H1 k1 o1 => ?_
    cases x with
    | true => exact h1.r q σ H1 env δ1 o D o1 ef ko
    | false => exact h2.r q σ H1 env δ1 o D o1 ef ko
def gRaise : SgX := fun _ δ => some (.rs δ)
theorem dx_raise (hc : X.calm = true) (tk : L2N.Takes X (fun c d _ H => E c d H)) (mk : L2N.PMk X e (fun _ H Q => Q cls none H)) : DStX X E cls (.Raise (some e) none pos) (fun _ _ H => E cls none H) gRaise :=
  ⟨L2N.ps_raise (t := fun _ H Q => Q cls none H) hc tk mk, fun q σ H env δ o D k ef ko => by cases ef; exact ko H k.kp k.dc⟩
def forX (gd : GT) (b : SgX) : List Dat → SgX
  | [] => fun env δ => some (.ok (.nx env δ))
  | x :: xs => fun env δ => (gd x env).bind fun env1 => (b env1 δ).bind fun o => match o with
      | .ok (.nx env' δ') => forX gd b xs env' δ'
      | .ok (.ct env' δ') => forX gd b xs env' δ'
      | .ok (.bk env' δ') => some (.ok (.nx env' δ'))
      | .ok (.rt x δ') => some (.ok (.rt x δ'))
      | .rs δ' => some (.rs δ')
def gForX (fi : EA) (gd : GT) (b : SgX) : SgX := fun env δ => (fi env δ).bind fun r => forX gd b r.1 env r.2
theorem dx_for {tgd : TG} {gd : GT} {ts : List Nat} {body : List Stmt} (hp : PassesOwn (model X.prog X.w) X.A X.env X.xe) (hc : X.calm = true) (hi : DI X tg e wi fi) (hg : DG X tg tgd gd ts) (hb : DSsX X E cls body t gx)
    (hs : ∀ x, foldedSetIterable e X.env x = pure x := by intro _; rfl) : DStX X E cls (.For tg e body [] pos) (tFor wi tgd t) (gForX fi gd gx) := by
  refine ⟨ps_for hp hc hi.p hg.p hb.p hs, fun q σ H env δ o D k ef ko => ?_⟩
  unfold gForX at ef
  cases e1 : fi env δ with
  | none => rw [e1] at ef; cases ef
  | some r1 =>
    obtain ⟨xs, δ1⟩ := r1
    rw [e1] at ef
    simp only [Option.bind_some] at ef
    refine hi.r q σ H env δ xs δ1 _ k e1 fun J H1 gv gv' k1 S o1 => ?_
    refine ⟨fun i m σ H => m = xs.length - i ∧ i ≤ xs.length ∧ ∃ env δ, Ok X.K X.mg (q.withGh gv gv') σ H env δ ∧ forX gd gx (xs.drop i) env δ = some o, ⟨xs.length, by simp, Nat.zero_le _, env, δ1, o1, ef⟩, ?_⟩
    rintro i m σ H ⟨rfl, hi', env, δ, k, ef⟩
    obtain ⟨k0, rg⟩ := k.popGh S.len
    by_cases hlt : i < xs.length
    · rw [List.drop_eq_getElem_cons hlt] at ef
      refine .inr ⟨S.go _ _ i rg hlt, fun σ' H' => ∃ env δ, Ok X.K X.mg (q.withGh gv gv') σ' H' env δ ∧ forX gd gx (xs.drop (i + 1)) env δ = some o, fun σ' H' h => ⟨xs.length - (i + 1), by omega, rfl, hlt, h⟩, fun v H' y => ?_⟩
      obtain ⟨s, ry⟩ := S.yld _ _ i v H' rg y
      have rx := ry _ (List.getElem?_eq_getElem hlt)
      unfold forX at ef
      cases e2 : gd xs[i] env with
      | none => rw [e2] at ef; cases ef
      | some env1 =>
        rw [e2] at ef
        refine hg.r (q.withGh gv gv') σ H' env δ v xs[i] env1 _ (k.grow s) rx e2 fun σ2 _ _ k2 => ?_
        simp only [Option.bind_some] at ef
        cases e3 : gx env1 δ with
        | none => rw [e3] at ef; cases ef
        | some o3 =>
          rw [e3] at ef
          refine hb.r (q.withGh gv gv') σ2 H' env1 δ o3 _ k2 e3 ?_
          cases o3 with
          | rs δ' =>
            cases ef
            exact ko
          | ok o3 =>
            cases o3 with
            | nx env' δ' => exact fun σ' H' k' => ⟨env', δ', k', ef⟩
            | ct env' δ' => exact fun σ' H' k' => ⟨env', δ', k', ef⟩
            | bk env' δ' =>
              cases ef
              exact fun σ' H' k' => ko σ' H' (k'.popGh S.len).1
            | rt x δ' =>
              cases ef
              exact ko
    · have e' : i = xs.length := by omega
      subst e'
      rw [List.drop_length] at ef
      cases ef
      exact .inl ⟨S.stop _ _ rg, ko σ H k0⟩
end
/-! ### a def, its calls -/
abbrev GFX := List Dat → List Int → Option ((Dat × List Int) ⊕ List Int)
def spGX (K : PySem.W.Frag) (mg : Str → Option Value) (n : Nat) (cls : Value) (G : GFX) : Sp := fun vs H Q E => ∃ (d : Option Addr) (N : Addr → Prop) (xs : List Dat) (δ : List Int) (r : (Dat × List Int) ⊕ List Int),
  xs.length = n ∧ (∀ a, d = some a → N a) ∧ (∀ b, N b → H b ≠ none) ∧ DiceAt d H δ ∧ RpA K mg d N H vs xs ∧ G xs δ = some r ∧
  (∀ y δ', r = .inl (y, δ') → ∀ v H', Keep (isD d) H H' → DiceAt d H' δ' → Rp K mg d N H' v y → Q v H') ∧ (∀ δ', r = .inr δ' → ∀ H', Keep (isD d) H H' → DiceAt d H' δ' → E cls none H')
def OkGX (P : Program) (w : World) (K : PySem.W.Frag) (mg : Str → Option Value) (base : Heap) (k : Nat) (nm : Str) (ps : List Str) (cls : Value) (G : GFX) : Prop :=
  ∃ (f : Addr) (fd : FuncData), mg nm = some (.ref f) ∧ PySem.W.keepIn K (.ref f) = true ∧ Binds K fd ps [] ∧ FnOk P w K mg base (L2N.CX P w) k f fd ps (spGX K mg ps.length cls G)
def runGX (N : List Str) (g : SgX) : GFX := fun xs δ => match g (startE N xs) δ with
  | some (.ok (.rt x δ')) => some (.inl (x, δ'))
  | some (.ok (.nx _ δ')) => some (.inl (.non, δ'))
  | some (.rs δ') => some (.inr δ')
  | _ => none
section
variable {P : Program} {w : World} {K : PySem.W.Frag} {mg : Str → Option Value} {base : Heap} {k : Nat} {f : Addr} {fd : FuncData} {x : Str} {st : Stmt} {N ps : List Str} {cls : Value} {g : SgX} {G : GFX}
theorem OkGX.mono {j : Nat} (h : OkGX P w K mg base k x ps cls G) (hj : k ≤ j) : OkGX P w K mg base j x ps cls G := by
  obtain ⟨f, fd, h1, h2, h3, h4⟩ := h
  exact ⟨f, fd, h1, h2, h3, h4.mono hj⟩
theorem Has.gx (h : Has K mg x st ps f fd) (S : FnScope N ps (defScope st))
    (hb : ∀ (cdv : Value) (A : Around) (outer : List Env) (s : Shared) (H : Hp) (E : XK), Room k (A.deeper (envOfC x (defScope st) s.heap.objs.size f cdv)) →
      ∃ t, DSsX (cxOf (L2N.CX P w) P w K mg base N x (defScope st) f cdv A outer s H E) E cls (defBody st) t g) : OkGX P w K mg base (k + 1) x ps cls (runGX N g) := by
  refine ⟨f, fd, h.m, h.F.kp, h.b, ?_⟩
  obtain ⟨oc, od, kV, doc, pm, an, cdv, ct, osl, rfl, lk, hcd⟩ := h.F.ex
  refine fn_of lk hcd S (fun vs H Q E hh => ?_) fun A outer s H vs Q E hr hsp => ?_
  · obtain ⟨d, M, xs, δ, r, hl, _, _, _, rr, _⟩ := hh
    rw [rr.length, hl]
  · obtain ⟨d, M, xs, δ, r, hl, hd, hM, hdc, rr, hG, hQ, hE⟩ := hsp
    obtain ⟨t, T⟩ := hb cdv A outer s H E hr
    refine ⟨t, T.p, ?_⟩
    have k0 := ok_start S hd hM hdc rr hl
    unfold runGX at hG
    cases e1 : g (startE N xs) δ with
    | none => rw [e1] at hG; cases hG
    | some o =>
      rw [e1] at hG
      refine T.r (fm0 d M H) (L2.start N vs) H (startE N xs) δ o _ k0 e1 ?_
      cases o with
      | rs δ1 =>
        cases hG
        exact fun H' k1 d1 => hE _ rfl H' k1 d1
      | ok o =>
        cases o with
        | rt x δ1 =>
          cases hG
          exact fun v H' k1 d1 r1 => hQ _ _ rfl v H' k1 d1 r1
        | nx env1 δ1 =>
          cases hG
          exact fun σ' H' k1 => hQ _ _ rfl _ H' k1.kp k1.dc .non
        | bk _ _ => cases hG
        | ct _ _ => cases hG
/-- where it raises, for d_tryX and d_tryP -/
theorem OkGX.okX (h : OkGX P w K mg base k x ps cls G) : OkX P w K mg base k x ps cls (fun xs δ δ' => G xs δ = some (.inr δ')) := by
  obtain ⟨f, fd, h1, h2, h3, h4⟩ := h
  refine ⟨f, fd, h1, h2, h3, h4.imp fun vs H Q E z => ?_⟩
  obtain ⟨d, M, xs, δ, δ', a1, a2, a3, a4, a5, a6, a7⟩ := z
  exact ⟨d, M, xs, δ, .inr δ', a1, a2, a3, a4, a5, a6, (fun y δ1 z => by cases z), (fun δ1 z => by cases z; exact a7)⟩
end
section
variable {X : Cx} {E : XK} {cls : Value} {kk : Nat} {nm : Str} {ps : List Str} {G : GFX} {e : Expr} {es : List Expr} {tr : TA} {fr : EA} {p pos spos : Pos}
/-- the answer of a call that does not raise -/
def eCallX (G : GFX) (n : Nat) (fr : EA) : Dl.E := fun env δ => (fr env δ).bind fun r => if r.1.length = n then (match G r.1 r.2 with | some (.inl y) => some y | _ => none) else none
/-- a call that may raise: its answer or its raising -/
def gCallX (G : GFX) (n : Nat) (fr : EA) (after : Dat → Sg) : SgX := fun env δ => (fr env δ).bind fun r => if r.1.length = n then (match G r.1 r.2 with | some (.inl y) => (after y.1 env y.2).map .ok | some (.inr δ') => some (.rs δ') | none => none) else none
theorem no_raise (σ : L2.St) : PassesAt (L2N.CX X.prog X.w) X σ (fun _ _ _ => False) := fun _ _ _ _ _ _ c => by
  obtain ⟨_, _, _, _, _, _, _, _, _, _, _, _, z⟩ := c
  exact z.elim
theorem d_callX (h : OkGX X.prog X.w X.K X.mg X.base kk nm ps cls G) (hr : Room kk X.A) (hg : Gl X nm) (ha : DA X (e :: es) tr fr) (hdb : (nm == ("__debug__" : Str)) = false := by decide)
    (he : starEach (e :: es) X.env = (false, eval e X.env) :: starEach es X.env := by rfl) (hpl : (backTo pos (starEach es X.env)).any (·.1) = false := by rfl) :
    DS X (.Call (.Name nm p) (e :: es) [] pos) (tCallS (spGX X.K X.mg ps.length cls G) (fun _ _ _ _ => False) tr) (eCallX G ps.length fr) := by
  obtain ⟨f, fd, h1, h2, h3, F⟩ := h
  refine ⟨pe_callS F hr hg h1 h2 h3 no_raise ha.p hdb he hpl, fun q σ H env δ z δ' Q k ef kq => ?_⟩
  unfold eCallX at ef
  cases e1 : fr env δ with
  | none => rw [e1] at ef; cases ef
  | some r1 =>
    obtain ⟨ys, δ1⟩ := r1
    rw [e1] at ef
    simp only [Option.bind_some] at ef
    split at ef
    rotate_left
    · cases ef
    rename_i hl
    cases e2 : G ys δ1 with
    | none => rw [e2] at ef; cases ef
    | some r2 =>
      rw [e2] at ef
      cases r2 with
      | inr δ2 => cases ef
      | inl y =>
        cases ef
        refine ha.r q σ H env δ ys δ1 _ k e1 fun vs H1 k1 o1 r1 => ?_
        exact ⟨q.d, NN q σ env, ys, δ1, .inl (z, δ'), hl, o1.dn, fun b => o1.nn, o1.dc, r1, e2, (fun y2 δ2 ez v H2 k2 d2 r2 => by cases ez; exact kq v H2 (k1.trans k2) (o1.step k2 d2) r2), (fun δ2 ez => by cases ez)⟩
/-- x = f(..), f may raise -/
theorem dx_set (i : Nat) {y : Expr} (tk : L2N.Takes X (fun c d _ H => E c d H)) (h : OkGX X.prog X.w X.K X.mg X.base kk nm ps cls G) (hr : Room kk X.A) (hg : Gl X nm) (ha : DA X (e :: es) tr fr)
    (hs : ∀ {te : TE}, PE X (.Call (.Name nm p) (e :: es) [] pos) te → PS X (.Assign [y] (.Call (.Name nm p) (e :: es) [] pos) spos) (tAsg te (gName i))) (hdb : (nm == ("__debug__" : Str)) = false := by decide)
    (he : starEach (e :: es) X.env = (false, eval e X.env) :: starEach es X.env := by rfl) (hpl : (backTo pos (starEach es X.env)).any (·.1) = false := by rfl) :
    DStX X E cls (.Assign [y] (.Call (.Name nm p) (e :: es) [] pos) spos) (tAsg (tCallS (spGX X.K X.mg ps.length cls G) (fun _ c d H => E c d H) tr) (gName i)) (gCallX G ps.length fr fun x env δ => (tgName i x env).map fun env' => .nx env' δ) := by
  obtain ⟨f, fd, h1, h2, h3, F⟩ := h
  refine ⟨hs (pe_callS F hr hg h1 h2 h3 (fun σ => L2N.passAt tk σ) ha.p hdb he hpl), fun q σ H env δ o D k ef ko => ?_⟩
  unfold gCallX at ef
  cases e1 : fr env δ with
  | none => rw [e1] at ef; cases ef
  | some r1 =>
    obtain ⟨ys, δ1⟩ := r1
    rw [e1] at ef
    simp only [Option.bind_some] at ef
    split at ef
    rotate_left
    · cases ef
    rename_i hl
    cases e2 : G ys δ1 with
    | none => rw [e2] at ef; cases ef
    | some r2 =>
      rw [e2] at ef
      refine ha.r q σ H env δ ys δ1 _ k e1 fun vs H1 k1 o1 r1 => ?_
      refine ⟨q.d, NN q σ env, ys, δ1, r2, hl, o1.dn, fun b => o1.nn, o1.dc, r1, e2, fun y2 δ2 ez v H2 k2 d2 r2' => ?_, fun δ2 ez H2 k2 d2 => ?_⟩
      · subst ez
        cases ef
        exact ko _ H2 ((o1.step k2 d2).set i r2')
      · subst ez
        cases ef
        exact ko H2 (o1.kp.trans k2) d2
/-- f(..) as a statement, f may raise -/
theorem dx_expr (tk : L2N.Takes X (fun c d _ H => E c d H)) (h : OkGX X.prog X.w X.K X.mg X.base kk nm ps cls G) (hr : Room kk X.A) (hg : Gl X nm) (ha : DA X (e :: es) tr fr) (hdb : (nm == ("__debug__" : Str)) = false := by decide)
    (he : starEach (e :: es) X.env = (false, eval e X.env) :: starEach es X.env := by rfl) (hpl : (backTo pos (starEach es X.env)).any (·.1) = false := by rfl) (hsw : swapsWith (.Call (.Name nm p) (e :: es) [] pos) none spos.line X.env = pure false := by rfl) :
    DStX X E cls (.Expr (.Call (.Name nm p) (e :: es) [] pos) spos) (tDrop (tCallS (spGX X.K X.mg ps.length cls G) (fun _ c d H => E c d H) tr)) (gCallX G ps.length fr fun _ env δ => some (.nx env δ)) := by
  obtain ⟨f, fd, h1, h2, h3, F⟩ := h
  refine ⟨ps_expr (pe_callS F hr hg h1 h2 h3 (fun σ => L2N.passAt tk σ) ha.p hdb he hpl) hsw, fun q σ H env δ o D k ef ko => ?_⟩
  unfold gCallX at ef
  cases e1 : fr env δ with
  | none => rw [e1] at ef; cases ef
  | some r1 =>
    obtain ⟨ys, δ1⟩ := r1
    rw [e1] at ef
    simp only [Option.bind_some] at ef
    split at ef
    rotate_left
    · cases ef
    rename_i hl
    cases e2 : G ys δ1 with
    | none => rw [e2] at ef; cases ef
    | some r2 =>
      rw [e2] at ef
      refine ha.r q σ H env δ ys δ1 _ k e1 fun vs H1 k1 o1 r1 => ?_
      refine ⟨q.d, NN q σ env, ys, δ1, r2, hl, o1.dn, fun b => o1.nn, o1.dc, r1, e2, fun y2 δ2 ez v H2 k2 d2 r2' => ?_, fun δ2 ez H2 k2 d2 => ?_⟩
      · subst ez
        cases ef
        exact ko σ H2 (o1.step k2 d2)
      · subst ez
        cases ef
        exact ko H2 (o1.kp.trans k2) d2
end
end Dl

/-! Walks by number, ranges with a step, texts cut, comprehensions of two clauses, texts of the module. -/
namespace Dl
open PySem PySem.Spec L2
section
variable {X : Cx} {e a b c elt iter tg iter1 tg1 : Expr} {es ifs ifs1 : List Expr} {t ta tb te : TE} {f g fe : E} {ft ft1 : ET} {fi fr fi1 : EA} {gd gd1 : GT} {tgd tgd1 : TG} {tt tt1 : TT} {wi wi1 : TI} {ts ts1 : List Nat} {tr : TA} {pos : Pos} {K : PySem.W.Frag} {mg : Str → Option Value} {p' : Pos}
/-! ### enumerate(list) -/
def enumD (xs : List Dat) : List Dat := xs.mapIdx fun i x => .tup [.int (i : Nat), x]
theorem enumD_get {xs : List Dat} {i : Nat} : (enumD xs)[i]? = xs[i]?.map fun x => .tup [.int (i : Nat), x] := by
  unfold enumD
  rw [List.getElem?_mapIdx]
theorem enumD_len {xs : List Dat} : (enumD xs).length = xs.length := by unfold enumD; simp
def iEn (f : E) : EA := fun env δ => (f env δ).bind fun r => match r.1 with
  | .lst xs => some (enumD xs, r.2)
  | _ => none
theorem d_ienum {tpos : Pos} {elts : List Expr} {kk : Nat} (hg : Gl X "enumerate") (hm : X.mg "enumerate" = none) (he : DS X e te f) (hs0 : starEach [e] X.env = (false, eval e X.env) :: starEach [] X.env := by rfl) (hs : starEach [e] X.env = [(false, eval e X.env)] := by rfl) :
    DI X (.Tuple elts kk tpos) (.Call (.Name "enumerate" p') [e] [] pos) (iEnum X.K (tCons te tNil)) (iEn f) := by
  refine ⟨pi_enum hg hm (pa_cons he.p pa_nil hs0) hs, fun q σ H env δ xs δ' R k ef kr => ?_⟩
  unfold iEn at ef
  cases e1 : f env δ with
  | none => rw [e1] at ef; cases ef
  | some r1 =>
    obtain ⟨x, δ1⟩ := r1
    rw [e1] at ef
    cases x with
    | lst ys =>
      cases ef
      refine he.r q σ H env δ (.lst ys) _ _ k e1 fun v H1 k1 o1 r => ?_
      cases r with
      | lst h1 h2 h3 =>
        rename_i a vs
        refine ⟨a, vs, rfl, .of h1, kr _ H1 [.ref a] [.lst ys] k1 ⟨rfl, fun N H i h hi => ?_, fun N H h => ?_, fun N H i v H' h y => ?_⟩ (o1.pushGh (.cons (.lst h1 h2 h3) .nil))⟩
        · rw [enumD_len] at hi
          cases h with
          | cons h _ =>
            cases h with
            | lst g1 g2 g3 =>
              obtain ⟨v, e1, _⟩ := g3.get (List.getElem?_eq_getElem hi)
              exact ⟨_, v, .of g1, e1⟩
        · rw [enumD_len]
          cases h with
          | cons h _ =>
            cases h with
            | lst g1 g2 g3 => exact ⟨_, .of g1, by rw [g3.length]; exact Nat.le_refl _⟩
        · obtain ⟨T, x, rfl, hT, rfl, hx⟩ := y
          have s := same_fresh (o := .tup [.int (i : Nat), x]) hT
          refine ⟨s, fun z hz => ?_⟩
          rw [enumD_get] at hz
          cases h with
          | cons h _ =>
            cases h with
            | lst g1 g2 g3 =>
              cases hy : ys[i]? with
              | none => rw [hy] at hz; cases hz
              | some y0 =>
                rw [hy] at hz
                cases hz
                obtain ⟨w, e1, r⟩ := g3.get hy
                rw [hx _ (.of g1)] at e1
                cases e1
                exact .tup upd_same (.cons (.int _) (.cons (Rp.keep (.of_same s) (fun b z => .inl z) _ _ r) .nil))
    | _ => cases ef
theorem iEn_s {env : Ev} {δ δ1 : List Int} {xs : List Dat} (h1 : f env δ = some (.lst xs, δ1)) : iEn f env δ = some (enumD xs, δ1) := by unfold iEn; rw [h1]; rfl
/-! ### range(a, b, c) -/
def rangeC (i j c : Int) : List Dat := (List.range (Builtin.Range.rangeSize i j c).toNat).map fun k => .int (i + (k : Nat) * c)
def rgOk (i j c : Int) : Bool := decide (c ≠ 0) && decide (c.natAbs < 1073741824) && Builtin.Range.small i j c && decide (0 ≤ Builtin.Range.rangeSize i j c)
def iR3 (fr : EA) : EA := fun env δ => (fr env δ).bind fun r => match r.1 with
  | [.int i, .int j, .int c] => if rgOk i j c = true then some (rangeC i j c, r.2) else none
  | _ => none
theorem src_rangeC {d : Option Addr} (i j c : Int) : Src K mg d (Itc i c (Builtin.Range.rangeSize i j c).toNat) [] [] (rangeC i j c) := by
  refine ⟨rfl, fun N H k h hlt => ?_, fun N H h => ?_, fun N H k v H' h y => ?_⟩
  · unfold rangeC at hlt
    rw [List.length_map, List.length_range] at hlt
    exact hlt
  · show (Builtin.Range.rangeSize i j c).toNat ≤ _
    unfold rangeC
    simp
  · obtain ⟨rfl, rfl⟩ := y
    refine ⟨same_refl, fun x hx => ?_⟩
    unfold rangeC at hx
    rw [List.getElem?_map] at hx
    by_cases hlt : k < (Builtin.Range.rangeSize i j c).toNat
    · rw [List.getElem?_range hlt] at hx
      cases hx
      exact .int _
    · rw [List.getElem?_eq_none (by rw [List.length_range]; omega)] at hx
      cases hx
theorem d_irange3 {e1 e2 e3 : Expr} (hg : Gl X "range") (hm : X.mg "range" = none) (ha : DAB X [e1, e2, e3] tr fr)
    (hs : starEach [e1, e2, e3] X.env = (false, eval e1 X.env) :: starEach [e2, e3] X.env := by rfl) (hpl : (backTo pos (starEach [e2, e3] X.env)).any (·.1) = false := by rfl) :
    DI X tg (.Call (.Name "range" p') [e1, e2, e3] [] pos) (iRng3 tr) (iR3 fr) := by
  refine ⟨pi_range3 hg hm ha.p hs hpl, fun q σ H env δ xs δ' R k ef kr => ?_⟩
  unfold iR3 at ef
  cases e1 : fr env δ with
  | none => rw [e1] at ef; cases ef
  | some r1 =>
    obtain ⟨x, δ1⟩ := r1
    rw [e1] at ef
    simp only [Option.bind_some] at ef
    split at ef
    · rename_i i j c
      split at ef
      · rename_i hb
        cases ef
        unfold rgOk at hb
        simp only [Bool.and_eq_true, decide_eq_true_eq] at hb
        refine ha.r q σ H env δ _ _ _ k e1 fun vs H1 k1 o1 r => ?_
        match vs, r with
        | [u, v, w], ⟨r1, r2, r3, _⟩ =>
          cases r1
          cases r2
          cases r3
          exact ⟨i, j, c, _, rfl, ⟨hb.1.1.1, hb.1.1.2, hb.1.2, (Int.toNat_of_nonneg hb.2).symm⟩, kr _ H1 [] [] k1 (src_rangeC i j c) (o1.pushGh .nil)⟩
      · cases ef
    · cases ef
theorem iR3_s {env : Ev} {δ δ1 : List Int} {i j c : Int} (h1 : fr env δ = some ([.int i, .int j, .int c], δ1)) (h2 : rgOk i j c = true) : iR3 fr env δ = some (rangeC i j c, δ1) := by unfold iR3; rw [h1]; simp only [Option.bind_some, h2, if_true]
/-! ### text.split(sep) -/
def dSplit : Dat → Dat → Option Dat
  | .str a, .str b => if ((b.length == 0) = false ∧ a.length + 2 < 1000000) then some (.lst ((Txt.split a b).map .str)) else none
  | _, _ => none
abbrev rSplit : V → List V → Hp → VK → Prop := fun x xs H Q => ∃ a b, x = .str a ∧ xs = [.str b] ∧ (b.length == 0) = false ∧ a.length + 2 ≤ sizeLine ∧ rNewStrs (Txt.split a b) H Q
theorem rpA_strs {d : Option Addr} {N : Addr → Prop} {H : Hp} : ∀ l : List Str, RpA K mg d N H (l.map V.str) (l.map Dat.str)
  | [] => .nil
  | x :: l => .cons (.str x) (rpA_strs l)
theorem d_split {apos : Pos} (ha : DE X a ta f) (hb : DE X b tb g) (hs : starEach [b] X.env = [(false, eval b X.env)] := by rfl) (hbase : attributeBase a "split" X.env (eval a X.env) = eval a X.env := by rfl) (hline : (apos.endLine == pos.line) = true := by rfl) :
    DS X (.Call (.Attribute a "split" apos) [b] [] pos) (tM1 rSplit ta tb) (eOp dSplit f g) := by
  refine ⟨pe_split ha.p hb.p hs hbase hline, fun q σ H env δ z δ' Q k ef kq => ?_⟩
  unfold eOp at ef
  cases e1 : f env δ with
  | none => rw [e1] at ef; cases ef
  | some r1 =>
    obtain ⟨x, δ1⟩ := r1
    rw [e1] at ef
    cases e2 : g env δ1 with
    | none => simp [e2] at ef
    | some r2 =>
      obtain ⟨y, δ2⟩ := r2
      simp only [Option.bind_some, e2] at ef
      cases x <;> cases y <;> first | (cases ef; done) | skip
      rename_i s u
      have ef : ((if ((u.length == 0) = false ∧ s.length + 2 < 1000000) then some (Dat.lst ((Txt.split s u).map .str)) else none).map fun z => (z, δ2)) = some (z, δ') := ef
      split at ef
      · rename_i hc
        cases ef
        refine ha.r q σ H env δ _ δ1 _ k e1 fun v H1 k1 o1 r1 => ?_
        cases r1
        refine ⟨⟨s, rfl⟩, hb.r q σ H1 env δ1 _ _ _ o1 e2 fun w H2 k2 o2 r2 => ?_⟩
        cases r2
        refine ⟨s, u, rfl, rfl, hc.1, le_line hc.2, fun p hp => ?_⟩
        have sm := same_fresh (o := .lst ((Txt.split s u).map V.str)) hp
        exact kq _ _ ((k1.trans k2).trans (.of_same sm)) (o2.grow sm) (.lst upd_same (o2.free hp) (rpA_strs _))
      · cases ef
/-! ### int(a truth) -/
def dInt : List Dat → Option Dat
  | [.int i] => some (.int i)
  | [.bl k] => some (.int (if k then 1 else 0))
  | _ => none
abbrev rInt1 : List V → Hp → VK → Prop := fun xs H Q => (∃ i, xs = [.int i] ∧ Q (.int i) H) ∨ ∃ k, xs = [.bl k] ∧ Q (.int (if k then 1 else 0)) H
theorem ref_int : RefC K mg rInt1 dInt := by
  intro d N H vs xs z Q hd hN r e kq
  match xs with
  | [.int i] =>
    cases e
    obtain ⟨v, rfl, rb⟩ := bs1 r
    cases rb
    exact .inl ⟨i, rfl, kq _ H same_refl (.int _)⟩
  | [.bl k] =>
    cases e
    obtain ⟨v, rfl, rb⟩ := bs1 r
    cases rb
    exact .inr ⟨k, rfl, kq _ H same_refl (.int _)⟩
/-! ### a text of the module -/
def GlS (mg : Str → Option Value) (x : Str) (i : Str) : Prop := ∃ t, mg x = some (.str i t)
theorem d_gs {x : Str} {i : Str} (h : GlS X.mg x i) (hg : Gl X x) (hd : (x == ("__debug__" : Str)) = false := by decide) : DS X (.Name x pos) (tC (.str i)) (eC (.str i)) := by
  obtain ⟨t, h⟩ := h
  exact d_glob hg h ⟨_, rfl⟩ (fun _ _ _ => .str i) hd
/-! ### [e for x in xs for y in ys] -/
def lc2D (gd : GT) (ft : ET) (fi1 : EA) (gd1 : GT) (ft1 : ET) (fe : E) (vs1 : List Nat) (env : Ev) : List Dat → List Int → Option (List Dat × List Int)
  | [], δ => some ([], δ)
  | x :: xs, δ => (gd x env).bind fun e1 => (ft e1 δ).bind fun r => if r.1 = true then (fi1 e1 r.2).bind fun s =>
      if (decide (s.1.length ≤ 1000) && noOwn e1 vs1) = true then (lcD gd1 ft1 fe (wipeE e1 vs1) s.1 s.2).bind fun y => (lc2D gd ft fi1 gd1 ft1 fe vs1 env xs y.2).map fun u => (y.1 ++ u.1, u.2) else none
    else lc2D gd ft fi1 gd1 ft1 fe vs1 env xs r.2
def fLc2 (fi : EA) (gd : GT) (ft : ET) (fi1 : EA) (gd1 : GT) (ft1 : ET) (fe : E) (vs vs1 : List Nat) : EA := fun env δ => (fi env δ).bind fun r =>
  if (decide (r.1.length ≤ 1000) && noOwn env vs) = true then lc2D gd ft fi1 gd1 ft1 fe vs1 (wipeE env vs) r.1 r.2 else none
theorem rp_wiped {q : Fm} {σ : St} {env : Ev} {H : Hp} {v : V} {x : Dat} (vs : List Nat) (rx : Rp K mg q.d (NN q σ env) H v x) : Rp K mg q.d (NN q (wipe σ vs) (wipeE env vs)) H v x := by
  refine Rp.keep .refl (fun b z => .inl ?_) _ _ rx
  rcases z with z | z | ⟨j, l', z1, z2⟩
  · exact .inl z
  · exact .inr (.inl z)
  · rw [get_wipeE] at z1
    rw [get_wipe] at z2
    by_cases hj : j ∈ vs
    · rw [if_pos hj] at z1
      split at z1 <;> cases z1
    · rw [if_neg hj] at z1 z2
      exact .inr (.inr ⟨j, l', z1, z2⟩)
theorem go_free {q : Fm} {σ : St} {H : Hp} {env : Ev} {δ : List Int} {D : Addr} {acc : List Dat} {gv : List V} {gx : List Dat} (hl : gv.length = gx.length) (k : Ok K mg ((q.withGh gv gx).withGo D acc) σ H env δ) : Ok K mg (q.withGo D acc) σ H env δ ∧ RpA K mg q.d (NN (q.withGo D acc) σ env) H gv gx :=
  Ok.popGh hl (q := q.withGo D acc) ⟨k.kp, k.dc, k.dm, k.md, k.ln, k.sf, k.vl, k.ow, k.ds, k.gh, k.go⟩
theorem go_gh {q : Fm} {σ : St} {H : Hp} {env : Ev} {δ : List Int} {D : Addr} {acc : List Dat} {gv : List V} {gx : List Dat} (k : Ok K mg (q.withGo D acc) σ H env δ) (r : RpA K mg q.d (NN (q.withGo D acc) σ env) H gv gx) : Ok K mg ((q.withGh gv gx).withGo D acc) σ H env δ := by
  have k := Ok.pushGh (q := q.withGo D acc) k r
  exact ⟨k.kp, k.dc, k.dm, k.md, k.ln, k.sf, k.vl, k.ow, k.ds, k.gh, k.go⟩
theorem rf_lc2 {vs vs1 : List Nat} (hi : RI K mg wi fi) (hg : RG K mg tgd gd ts) (ht : RT K mg tt ft) (hi1 : RI K mg wi1 fi1) (hg1 : RG K mg tgd1 gd1 ts1) (ht1 : RT K mg tt1 ft1) (he : RS K mg te fe) (hs : ∀ j ∈ ts, j ∈ vs) (hs1 : ∀ j ∈ ts1, j ∈ vs1) :
    RF K mg (tLc2 wi tgd tt wi1 tgd1 tt1 te vs vs1) (fLc2 fi gd ft fi1 gd1 ft1 fe vs vs1) := by
  intro q σ H env δ l δ' Q k ef kq
  unfold fLc2 at ef
  cases e1 : fi env δ with
  | none => rw [e1] at ef; cases ef
  | some r1 =>
    obtain ⟨xs, δ1⟩ := r1
    rw [e1] at ef
    simp only [Option.bind_some] at ef
    split at ef
    rotate_left
    · cases ef
    rename_i hc
    rw [Bool.and_eq_true, decide_eq_true_eq] at hc
    obtain ⟨hz, hv⟩ := hc
    refine hi q σ H env δ xs δ1 _ k e1 fun J H1 gv gx k1 S o1 D hD => ?_
    obtain ⟨o2, hDq⟩ := o1.pushGo (l := []) (vs := []) hD .nil
    have hDq' : ∀ l', (D, l') ∉ q.go := hDq
    have hDn : H D = none := by
      cases z : H D with
      | none => rfl
      | some o => exact absurd hD (k1.there z fun hd z => by
          have := o1.dc D hd
          rw [z] at this; cases this)
    refine ⟨fun i m H' => m = xs.length - i ∧ i ≤ xs.length ∧ Keep (isD q.d) H H' ∧ ∃ acc δi u, Ok K mg ((q.withGh gv gx).withGo D acc) σ H' env δi ∧ acc.length ≤ i * 1000 ∧ lc2D gd ft fi1 gd1 ft1 fe vs1 (wipeE env vs) (xs.drop i) δi = some (u, δ') ∧ acc ++ u = l,
      ⟨xs.length, by simp, Nat.zero_le _, k1.trans (.fresh hD), [], δ1, l, o2, Nat.zero_le _, ef, rfl⟩, ?_⟩
    rintro i m H2 ⟨rfl, hile, kk, acc, δi, u, k2, hal, el, eu⟩
    have gh2 := (go_free S.len k2).2
    by_cases hlt : i < xs.length
    · rw [List.drop_eq_getElem_cons hlt] at el
      refine .inr ⟨S.go _ _ i gh2 hlt, fun H' => Keep (isD q.d) H H' ∧ ∃ acc δi u, Ok K mg ((q.withGh gv gx).withGo D acc) σ H' env δi ∧ acc.length ≤ (i + 1) * 1000 ∧ lc2D gd ft fi1 gd1 ft1 fe vs1 (wipeE env vs) (xs.drop (i + 1)) δi = some (u, δ') ∧ acc ++ u = l,
        fun H' h => ⟨xs.length - (i + 1), by omega, rfl, hlt, h.1, h.2⟩, fun v H3 y => ?_⟩
      obtain ⟨s, ry⟩ := S.yld _ _ i v H3 gh2 y
      have rx := ry _ (List.getElem?_eq_getElem hlt)
      unfold lc2D at el
      cases e2 : gd xs[i] (wipeE env vs) with
      | none => rw [e2] at el; cases el
      | some env1 =>
        rw [e2] at el
        simp only [Option.bind_some] at el
        have k3 : Ok K mg ((q.withGh gv gx).withGo D acc) σ H3 env δi := k2.grow s
        refine hg ((q.withGh gv gx).withGo D acc) (wipe σ vs) H3 (wipeE env vs) δi v xs[i] env1 _ (k3.wiped vs) (rp_wiped (q := (q.withGh gv gx).withGo D acc) vs rx) e2 fun σ2 a1 a2 k4 => ⟨wipe_ag a1 hs, ?_⟩
        cases e3 : ft env1 δi with
        | none => rw [e3] at el; cases el
        | some r3 =>
          obtain ⟨bb, δ3⟩ := r3
          rw [e3] at el
          refine ht _ σ2 H3 env1 δi bb δ3 _ k4 e3 fun H4 k5 o5 => ?_
          cases bb with
          | false =>
            rw [if_neg Bool.false_ne_true]
            simp only [Option.bind_some, Bool.false_eq_true, if_false] at el
            exact ⟨kk.trans ((Keep.of_same s).trans k5), acc, δ3, u, k3.step k5 o5.dc, by omega, el, eu⟩
          | true =>
            rw [if_pos rfl]
            simp only [Option.bind_some, if_true] at el
            cases e4 : fi1 env1 δ3 with
            | none => rw [e4] at el; cases el
            | some r4 =>
              obtain ⟨ys, δ4⟩ := r4
              rw [e4] at el
              simp only [Option.bind_some] at el
              split at el
              rotate_left
              · cases el
              rename_i hc1
              rw [Bool.and_eq_true, decide_eq_true_eq] at hc1
              obtain ⟨hz1, hv1⟩ := hc1
              cases e5 : lcD gd1 ft1 fe (wipeE env1 vs1) ys δ4 with
              | none => rw [e5] at el; cases el
              | some r5 =>
                obtain ⟨uu, δ5⟩ := r5
                rw [e5] at el
                simp only [Option.bind_some] at el
                cases e6 : lc2D gd ft fi1 gd1 ft1 fe vs1 (wipeE env vs) (xs.drop (i + 1)) δ5 with
                | none => rw [e6] at el; cases el
                | some r6 =>
                  obtain ⟨u2, δ6⟩ := r6
                  rw [e6] at el
                  cases el
                  refine hi1 _ σ2 H4 env1 δ3 ys δ4 _ o5 e4 fun J1 H5 gv1 gx1 k6 S1 o6 => ?_
                  have k7 : Ok K mg ((q.withGh gv gx).withGo D acc) σ H5 env δ4 := k3.step (k5.trans k6) o6.dc
                  have o6' : Ok K mg (((q.withGh gv gx).withGh gv1 gx1).withGo D acc) σ2 H5 env1 δ4 := ⟨o6.kp, o6.dc, o6.dm, o6.md, o6.ln, o6.sf, o6.vl, o6.ow, o6.ds, o6.gh, o6.go⟩
                  refine ⟨fun j m H' => m = ys.length - j ∧ j ≤ ys.length ∧ Keep (isD q.d) H H' ∧ ∃ acc1 δj u1, Ok K mg ((q.withGh gv gx).withGo D acc1) σ H' env δj ∧ Ok K mg (((q.withGh gv gx).withGh gv1 gx1).withGo D acc1) σ2 H' env1 δj ∧ acc1.length ≤ i * 1000 + j ∧ lcD gd1 ft1 fe (wipeE env1 vs1) (ys.drop j) δj = some (u1, δ5) ∧ acc1 ++ u1 = acc ++ uu,
                    ⟨ys.length, by simp, Nat.zero_le _, (kk.trans (Keep.of_same s)).trans (k5.trans k6), acc, δ4, uu, k7, o6', by omega, e5, rfl⟩, ?_⟩
                  rintro j m1 H6 ⟨rfl, hjle, kk1, acc1, δj, u1, p7, o7, hal1, el1, eu1⟩
                  have gh6 := (go_free (q := q.withGh gv gx) S1.len o7).2
                  by_cases hlt1 : j < ys.length
                  · rw [List.drop_eq_getElem_cons hlt1] at el1
                    refine .inr ⟨S1.go _ _ j gh6 hlt1, fun H' => Keep (isD q.d) H H' ∧ ∃ acc1 δj u1, Ok K mg ((q.withGh gv gx).withGo D acc1) σ H' env δj ∧ Ok K mg (((q.withGh gv gx).withGh gv1 gx1).withGo D acc1) σ2 H' env1 δj ∧ acc1.length ≤ i * 1000 + (j + 1) ∧ lcD gd1 ft1 fe (wipeE env1 vs1) (ys.drop (j + 1)) δj = some (u1, δ5) ∧ acc1 ++ u1 = acc ++ uu,
                      fun H' h => ⟨ys.length - (j + 1), by omega, rfl, hlt1, h.1, h.2⟩, fun w H7 y1 => ?_⟩
                    obtain ⟨s1, ry1⟩ := S1.yld _ _ j w H7 gh6 y1
                    have rx1 := ry1 _ (List.getElem?_eq_getElem hlt1)
                    unfold lcD at el1
                    cases e7 : gd1 ys[j] (wipeE env1 vs1) with
                    | none => rw [e7] at el1; cases el1
                    | some env2 =>
                      rw [e7] at el1
                      simp only [Option.bind_some] at el1
                      have p8 := p7.grow s1
                      have o8 := o7.grow s1
                      refine hg1 (((q.withGh gv gx).withGh gv1 gx1).withGo D acc1) (wipe σ2 vs1) H7 (wipeE env1 vs1) δj w ys[j] env2 _ (o8.wiped vs1) (rp_wiped (q := ((q.withGh gv gx).withGh gv1 gx1).withGo D acc1) vs1 rx1) e7 fun σ3 b1 b2 o9 => ⟨wipe_ag b1 hs1, ?_⟩
                      cases e8 : ft1 env2 δj with
                      | none => rw [e8] at el1; cases el1
                      | some r8 =>
                        obtain ⟨bb1, δ8⟩ := r8
                        rw [e8] at el1
                        refine ht1 _ σ3 H7 env2 δj bb1 δ8 _ o9 e8 fun H8 k9 o10 => ?_
                        cases bb1 with
                        | false =>
                          rw [if_neg Bool.false_ne_true]
                          simp only [Option.bind_some, Bool.false_eq_true, if_false] at el1
                          exact ⟨kk1.trans ((Keep.of_same s1).trans k9), acc1, δ8, u1, p8.step k9 o10.dc, o8.step k9 o10.dc, by omega, el1, eu1⟩
                        | true =>
                          rw [if_pos rfl]
                          simp only [Option.bind_some, if_true] at el1
                          cases e9 : fe env2 δ8 with
                          | none => rw [e9] at el1; cases el1
                          | some r9 =>
                            obtain ⟨yy, δ9⟩ := r9
                            rw [e9] at el1
                            simp only [Option.bind_some] at el1
                            cases e10 : lcD gd1 ft1 fe (wipeE env1 vs1) (ys.drop (j + 1)) δ9 with
                            | none => rw [e10] at el1; cases el1
                            | some r10 =>
                              obtain ⟨u3, δ10⟩ := r10
                              rw [e10] at el1
                              cases el1
                              refine he _ σ3 H8 env2 δ8 yy δ9 _ o10 e9 fun w2 H9 k10 o11 r11 => ?_
                              have p11 := p8.step (k9.trans k10) o11.dc
                              have o12 := o8.step (k9.trans k10) o11.dc
                              obtain ⟨_, ⟨ws, g3, gr⟩, _⟩ := p11.go D acc1 List.mem_cons_self
                              have ra : Rp K mg q.d (NN (((q.withGh gv gx).withGh gv1 gx1).withGo D acc1) σ2 env1) H9 w2 yy := Rp.keep .refl (fun b z => .inl (nn_back hv1 hs1 b1 b2 z)) _ _ r11
                              have rb : Rp K mg q.d (NN ((q.withGh gv gx).withGo D acc1) σ env) H9 w2 yy := Rp.keep .refl (fun b z => .inl (nn_back (q := (q.withGh gv gx).withGo D acc1) hv hs a1 a2 z)) _ _ ra
                              have hi9 : i * 1000 + j < 1000000 := by
                                have : i * 1000 ≤ 999 * 1000 := Nat.mul_le_mul_right _ (by omega)
                                omega
                              refine ⟨ws, g3, by rw [gr.length]; exact lt_line (by omega), ?_⟩
                              have p12 := p11.growGo (q := q.withGh gv gx) hDq g3 rb
                              have o13 := o12.growGo (q := (q.withGh gv gx).withGh gv1 gx1) hDq g3 ra
                              refine ⟨?_, acc1 ++ [yy], δ9, u3, p12, o13, by simp; omega, e10, by rw [← eu1]; simp⟩
                              exact (kk1.trans ((Keep.of_same s1).trans (k9.trans k10))).off hDn g3 rfl rfl
                  · have e' : j = ys.length := by omega
                    subst e'
                    rw [List.drop_length] at el1
                    cases el1
                    rw [List.append_nil] at eu1
                    subst eu1
                    refine .inl ⟨S1.stop _ _ gh6, kk1, acc ++ uu, δ5, u2, p7, ?_, e6, ?_⟩
                    · rw [Nat.add_mul, Nat.one_mul]; omega
                    · rw [← eu, List.append_assoc]
    · have e' : i = xs.length := by omega
      subst e'
      rw [List.drop_length] at el
      cases el
      rw [List.append_nil] at eu
      subst eu
      refine .inl ⟨S.stop _ _ gh2, ?_⟩
      exact kq D H2 kk hDq' (go_free S.len k2).1
end
end Dl

namespace Dl
open PySem PySem.Spec L2
section
variable {X : Cx} {e a b c elt iter tg iter1 tg1 : Expr} {es ifs ifs1 : List Expr} {t ta tb te : TE} {f g fe : E} {ft ft1 : ET} {fi fr fi1 : EA} {gd gd1 : GT} {tgd tgd1 : TG} {tt tt1 : TT} {wi wi1 : TI} {ts ts1 : List Nat} {tr : TA} {pos : Pos} {K : PySem.W.Frag} {mg : Str → Option Value}
theorem d_lc2 {scope : Scope} {own : List (Str × Nat)} {vs1 : List Nat} (hc : X.calm = true) (hN : X.N.Nodup) (hi : DI X tg iter wi fi) (ok : BlkOk X.N X.env.scope scope own)
    (hg : ∀ (s : Shared) (H : Hp) (C : Addr) (cl : List (Str × Addr)) (fp : List Addr), DG (X.blk s H scope (compEnvC scope cl C X.env) fp) tg tgd gd ts)
    (ht : ∀ (s : Shared) (H : Hp) (C : Addr) (cl : List (Str × Addr)) (fp : List Addr), DTs (X.blk s H scope (compEnvC scope cl C X.env) fp) ifs tt ft)
    (hi1 : ∀ (s : Shared) (H : Hp) (C : Addr) (cl : List (Str × Addr)) (fp : List Addr), DI (X.blk s H scope (compEnvC scope cl C X.env) fp) tg1 iter1 wi1 fi1)
    (hg1 : ∀ (s : Shared) (H : Hp) (C : Addr) (cl : List (Str × Addr)) (fp : List Addr), DG (X.blk s H scope (compEnvC scope cl C X.env) fp) tg1 tgd1 gd1 ts1)
    (ht1 : ∀ (s : Shared) (H : Hp) (C : Addr) (cl : List (Str × Addr)) (fp : List Addr), DTs (X.blk s H scope (compEnvC scope cl C X.env) fp) ifs1 tt1 ft1)
    (he : ∀ (s : Shared) (H : Hp) (C : Addr) (cl : List (Str × Addr)) (fp : List Addr), DS (X.blk s H scope (compEnvC scope cl C X.env) fp) elt te fe)
    (hv : ∀ i ∈ vs1, i ∈ own.map (·.2) := by decide) (hts : ∀ j ∈ ts, j ∈ own.map (·.2) := by decide) (hts1 : ∀ j ∈ ts1, j ∈ vs1 := by decide) (hs : ∀ x, foldedSetIterable iter X.env x = pure x := by intro _; rfl) (hs1 : ∀ env x, foldedSetIterable iter1 env x = pure x := by intro _ _; rfl) :
    DF X (.ListComp elt [⟨tg, iter, ifs, 0⟩, ⟨tg1, iter1, ifs1, 0⟩] scope pos) (tLc2 wi tgd tt wi1 tgd1 tt1 te (own.map (·.2)) vs1) (fLc2 fi gd ft fi1 gd1 ft1 fe (own.map (·.2)) vs1) :=
  ⟨pe_lc2 hc hN hi.p ok hv (fun s H C cl fp => (hg s H C cl fp).p) (fun s H C cl fp => (ht s H C cl fp).p) (fun s H C cl fp => (hi1 s H C cl fp).p) (fun s H C cl fp => (hg1 s H C cl fp).p) (fun s H C cl fp => (ht1 s H C cl fp).p) (fun s H C cl fp => (he s H C cl fp).p) hs hs1,
   rf_lc2 hi.r (hg X.s_0 X.H_0 0 [] []).r (ht X.s_0 X.H_0 0 [] []).r (hi1 X.s_0 X.H_0 0 [] []).r (hg1 X.s_0 X.H_0 0 [] []).r (ht1 X.s_0 X.H_0 0 [] []).r (he X.s_0 X.H_0 0 [] []).r hts hts1⟩
theorem d_setLc2 {i : Nat} {y : Str} {py spos : Pos} {scope : Scope} {own : List (Str × Nat)} {vs1 : List Nat} (hc : X.calm = true) (hN : X.N.Nodup) (hy : X.N[i]? = some y) (hyl : X.env.scope.names.lookup y = some .local)
    (hsw : swapsWith (.ListComp elt [⟨tg, iter, ifs, 0⟩, ⟨tg1, iter1, ifs1, 0⟩] scope pos) (some (.Name y py)) spos.line X.env = pure true) (hi : DI X tg iter wi fi) (ok : BlkOk X.N X.env.scope scope own)
    (hg : ∀ (s : Shared) (H : Hp) (C : Addr) (cl : List (Str × Addr)) (fp : List Addr), DG (X.blk s H scope (compEnvC scope cl C X.env) fp) tg tgd gd ts)
    (ht : ∀ (s : Shared) (H : Hp) (C : Addr) (cl : List (Str × Addr)) (fp : List Addr), DTs (X.blk s H scope (compEnvC scope cl C X.env) fp) ifs tt ft)
    (hi1 : ∀ (s : Shared) (H : Hp) (C : Addr) (cl : List (Str × Addr)) (fp : List Addr), DI (X.blk s H scope (compEnvC scope cl C X.env) fp) tg1 iter1 wi1 fi1)
    (hg1 : ∀ (s : Shared) (H : Hp) (C : Addr) (cl : List (Str × Addr)) (fp : List Addr), DG (X.blk s H scope (compEnvC scope cl C X.env) fp) tg1 tgd1 gd1 ts1)
    (ht1 : ∀ (s : Shared) (H : Hp) (C : Addr) (cl : List (Str × Addr)) (fp : List Addr), DTs (X.blk s H scope (compEnvC scope cl C X.env) fp) ifs1 tt1 ft1)
    (he : ∀ (s : Shared) (H : Hp) (C : Addr) (cl : List (Str × Addr)) (fp : List Addr), DS (X.blk s H scope (compEnvC scope cl C X.env) fp) elt te fe)
    (hv : ∀ i ∈ vs1, i ∈ own.map (·.2) := by decide) (hts : ∀ j ∈ ts, j ∈ own.map (·.2) := by decide) (hts1 : ∀ j ∈ ts1, j ∈ vs1 := by decide) (hs : ∀ x, foldedSetIterable iter X.env x = pure x := by intro _; rfl) (hs1 : ∀ env x, foldedSetIterable iter1 env x = pure x := by intro _ _; rfl) :
    DSt X (.Assign [.Name y py] (.ListComp elt [⟨tg, iter, ifs, 0⟩, ⟨tg1, iter1, ifs1, 0⟩] scope pos) spos) (tAsg (tLc2 wi tgd tt wi1 tgd1 tt1 te (own.map (·.2)) vs1) (gName i)) (gAsg (tgName i) (eF (fLc2 fi gd ft fi1 gd1 ft1 fe (own.map (·.2)) vs1))) := by
  have P0 := ps_setLc2 (i := i) hc hN hy hyl hsw hi.p ok hv (fun s H C cl fp => (hg s H C cl fp).p) (fun s H C cl fp => (ht s H C cl fp).p) (fun s H C cl fp => (hi1 s H C cl fp).p) (fun s H C cl fp => (hg1 s H C cl fp).p) (fun s H C cl fp => (ht1 s H C cl fp).p) (fun s H C cl fp => (he s H C cl fp).p) hs hs1
  refine ⟨P0, ?_⟩
  have R0 := (d_lc2 (pos := pos) hc hN hi ok hg ht hi1 hg1 ht1 he hv hts hts1 hs hs1).s.r
  exact rs_asg R0 (rg_name i)
end
end Dl

/-! enumerate(text). -/
namespace Dl
open PySem PySem.Spec L2 PyProof.Rows
/-- a text's signs, each in a new pair -/
def IteS (x : Str) : It :=
  ⟨fun i _ => i < x.cps.size, fun i H v H' => ∃ T c, v = .ref T ∧ H T = none ∧ H' = upd H T (.tup [.int (i : Nat), .str ⟨#[c]⟩]) ∧ x.cps[i]? = some c, fun i _ => x.cps.size ≤ i⟩
theorem turn_enumS {P : Program} {w : World} {K : PySem.W.Frag} {elts : List Expr} {kk : Nat} {tpos : Pos} (x : Str) (t : Tok) (e it : Addr) :
    Turn P w K (.Tuple elts kk tpos) (IteS x) [e, it] e (fun i h => (∃ old, IsEnum h e it ((i : Nat) : Int) old) ∧ h.IsStrIter it (strIterType x) x t i ∧ e ≠ it ∧ i ≤ x.cps.size) where
  mem := by simp
  obj := fun i h st b hb => by
    obtain ⟨⟨old, he⟩, ⟨o, ho, hc, hd⟩, _⟩ := st
    have e' : b = e ∨ b = it := by simpa using hb
    rcases e' with z | z
    · rw [z]; exact ⟨_, he, fun v q => nomatch q⟩
    · rw [z]; exact ⟨o, ho, fun v q => by rw [hd] at q; cases q⟩
  keep := fun i h h' st k => let ⟨⟨old, he⟩, ⟨o, ho, r⟩, hne, hle⟩ := st; ⟨⟨old, k e (by simp) _ he⟩, ⟨o, k it (by simp) o ho, r⟩, hne, hle⟩
  item := by
    intro X hP hw hK hc i pins s σ H E I hf st hg
    subst hP hw hK
    obtain ⟨⟨old, he⟩, hit, hne, hle⟩ := st
    have hel : e < s.heap.objs.size := Heap.lt_size he
    have hil : it < s.heap.objs.size := by obtain ⟨_, q, _⟩ := hit; exact Heap.lt_size q
    refine wpAny_pyNext_enum_itemD (Draws.text (A := X.A.in1) (I.ok.hd hc) it x t) he hit hg hne (by simpa using hne) fun v h' tk hv ho hit' hT hsz hk => ?_
    obtain ⟨c, u, hcx, rfl⟩ := hv
    refine ⟨_, rfl, wpAny_letOwnedTupleGo_enum (s := { s with heap := h', toks := tk + 1 }) ho fun h'' he' sb => ?_⟩
    have hT2 : h''.get? s.heap.objs.size = some { cls := .type "tuple", data := .seq #[.int i tk, .str ⟨#[c]⟩ u] } := (sb.2 _ (Nat.ne_of_gt hel)).trans hT
    have new : ObjOk X.prog X.w (upd H s.heap.objs.size (.tup [.int (i : Nat), .str ⟨#[c]⟩])) h'' s.heap.objs.size (.tup [.int (i : Nat), .str ⟨#[c]⟩]) :=
      ⟨by show 2 ≤ sizeLine; decide, [.int i tk, .str ⟨#[c]⟩ u], .cons ⟨_, rfl⟩ (.cons ⟨_, rfl⟩ .nil), ⟨_, hT2, rfl, _, rfl⟩⟩
    have I1 : Inv X pins σ (upd H s.heap.objs.size (.tup [.int (i : Nat), .str ⟨#[c]⟩])) { s with heap := h'', toks := tk + 1 } :=
      I.turnedNew (ch := [e, it]) (fun b ob hb q => (sb.2 b (fun z => hb (by simp [z]))).trans (hk b ob (fun z => hb (by simp [z])) (fun z => hb (by simp [z])) q)) hf (Nat.le_refl _) new
    refine ⟨.ref s.heap.objs.size, _, I1, rfl, ⟨_, c, rfl, I.hok.fresh (Nat.le_refl _), rfl, hcx⟩, ⟨⟨.str ⟨#[c]⟩ u, ?_⟩, ?_, hne, hg⟩, fun b hb => ?_⟩
    · have e1 : ((i + 1 : Nat) : Int) = (i : Int) + 1 := by omega
      rw [e1]; exact he'
    · obtain ⟨o, q, r⟩ := hit'
      exact ⟨o, (sb.2 it (Ne.symm hne)).trans q, r⟩
    · have hb' : b < s.heap.objs.size := by
        have e' : b = e ∨ b = it := by simpa using hb
        rcases e' with z | z
        · rw [z]; exact hel
        · rw [z]; exact hil
      rw [upd_ne (Nat.ne_of_lt hb')]
      exact (hf b hb).1
  done := by
    intro X hP hw hK hc i pins s σ H E I hf st hg
    subst hP hw hK
    obtain ⟨⟨old, he⟩, hit, hne, hle⟩ := st
    obtain ⟨f0, f1, f2, f3, f4, f5⟩ := hf it (by simp)
    have hz : i = x.cps.size := Nat.le_antisymm hle hg
    subst hz
    exact wpAny_pyNext_enum_endD (Draws.text (A := X.A.in1) (I.ok.hd hc) it x t) he hit fun h' eb => ⟨rfl, I.turned (t' := s.toks) (fun b o hb q => eb b o (by simpa using hb) q) f0 f1 f3 f4 f5⟩
  self := fun A i s Q E st h => let ⟨⟨_, he⟩, _⟩ := st; wpAny_pyIter_enum he h
def iEnumS (te : TE) : TI := fun σ H R => te σ H fun v H1 => ∃ x, v = .str x ∧ R (IteS x) H1
theorem pi_enumS {X : Cx} {e : Expr} {te : TE} {p pos tpos : Pos} {elts : List Expr} {kk : Nat} (hg : Gl X "enumerate") (hm : X.mg "enumerate" = none) (he : PE X e te) (hs : starEach [e] X.env = [(false, eval e X.env)] := by rfl) (hs0 : starEach [e] X.env = (false, eval e X.env) :: starEach [] X.env := by rfl) :
    PI X (.Tuple elts kk tpos) (.Call (.Name "enumerate" p) [e] [] pos) (iEnumS te) := by
  refine ⟨fun pins s σ H R I h => ?_⟩
  have h' : tCons te tNil σ H (fun vs H1 => ∃ x, vs = [.str x] ∧ R (IteS x) H1) := by
    have h : te σ H fun v H1 => ∃ x, v = .str x ∧ R (IteS x) H1 := h
    have : (fun (v : V) (H1 : Hp) => ∃ x, v = V.str x ∧ R (IteS x) H1) = fun v H1 => tNil σ H1 fun vs H2 => ∃ x, v :: vs = [.str x] ∧ R (IteS x) H2 := by
      funext v H1
      show _ = (∃ x, v :: [] = [.str x] ∧ R (IteS x) H1)
      simp
    rw [this] at h
    exact h
  refine Call_ (ld_blt I hg hm boot_enumerate (PyProof.Rows.callWith_type1 (thn ((pa_cons he pa_nil hs0).run pos pins s σ H _ I h') fun us s1 ⟨vs, H1, I1, r1, q1⟩ => ?_) hs rfl))
  obtain ⟨x, ex, q⟩ := q1
  subst ex
  cases r1 with
  | cons r rr =>
    cases rr
    obtain ⟨t, rfl⟩ := r
    refine call_enumerate_str fun h' he hit hsz hk => wpAny_pyIter_enum he ?_
    have I2 : Inv X pins σ H1 { s1 with heap := h' } := I1.kept (t' := s1.toks) hk
    refine ⟨s1.heap.objs.size + 1, [s1.heap.objs.size + 1, s1.heap.objs.size], _, _, H1, rfl, I2, turn_enumS x t (s1.heap.objs.size + 1) s1.heap.objs.size, ⟨⟨.none, he⟩, hit, Nat.succ_ne_self _, Nat.zero_le _⟩, fun b hb => ?_, q⟩
    have e' : b = s1.heap.objs.size + 1 ∨ b = s1.heap.objs.size := by simpa using hb
    have hle : s1.heap.objs.size ≤ b := by
      rcases e' with z | z
      · rw [z]; exact Nat.le_add_right _ _
      · rw [z]; exact Nat.le_refl _
    exact I1.fpOk hle (I1.hok.fresh hle)
def iEnS (f : E) : EA := fun env δ => (f env δ).bind fun r => match r.1 with
  | .str z => some (enumD (z.cps.toList.map fun c => .str ⟨#[c]⟩), r.2)
  | _ => none
theorem d_ienumS {X : Cx} {e : Expr} {te : TE} {f : E} {p' pos tpos : Pos} {elts : List Expr} {kk : Nat} (hg : Gl X "enumerate") (hm : X.mg "enumerate" = none) (he : DE X e te f) (hs : starEach [e] X.env = [(false, eval e X.env)] := by rfl) (hs0 : starEach [e] X.env = (false, eval e X.env) :: starEach [] X.env := by rfl) :
    DI X (.Tuple elts kk tpos) (.Call (.Name "enumerate" p') [e] [] pos) (iEnumS te) (iEnS f) := by
  refine ⟨pi_enumS hg hm he.p hs hs0, fun q σ H env δ xs δ' R k ef kr => ?_⟩
  unfold iEnS at ef
  cases e1 : f env δ with
  | none => rw [e1] at ef; cases ef
  | some r1 =>
    obtain ⟨x, δ1⟩ := r1
    rw [e1] at ef
    cases x with
    | str z =>
      cases ef
      refine he.r q σ H env δ (.str z) _ _ k e1 fun v H1 k1 o1 r => ?_
      cases r
      refine ⟨z, rfl, kr _ H1 [] [] k1 ⟨rfl, fun N H i h hi => ?_, fun N H h => ?_, fun N H i v H' h y => ?_⟩ (o1.pushGh .nil)⟩
      · show i < z.cps.size
        rw [enumD_len] at hi
        simpa using hi
      · show z.cps.size ≤ _
        rw [enumD_len]
        simp
      · obtain ⟨T, c, rfl, hT, rfl, hc⟩ := y
        have s := same_fresh (o := .tup [.int (i : Nat), .str ⟨#[c]⟩]) hT
        refine ⟨s, fun x hx => ?_⟩
        rw [enumD_get, List.getElem?_map, Array.getElem?_toList, hc] at hx
        cases hx
        exact .tup upd_same (.cons (.int _) (.cons (.str _) .nil))
    | _ => cases ef
theorem iEnS_s {f : E} {env : Ev} {δ δ1 : List Int} {w : List Nat} (h1 : f env δ = some (.str (S w), δ1)) : iEnS f env δ = some (enumD (w.map fun c => .str (S [c])), δ1) := by unfold iEnS; rw [h1]; rfl
end Dl


/-! The reckoning by rewriting: each word of the layer as a machine's step (printed by a tool of mine). -/
namespace Dl
open PySem PySem.Spec L2
abbrev ltrD (c : Nat) : Dat := .str (S [c])
/-- not by the checker's own reckoning -/
theorem nrfl {α : Type} {a b : α} (h : a = b) : a = b := h
section
variable {env e1 e2 : Ev} {δ δ1 δ2 : List Int} {i j n : Nat} {x y z u : Dat} {xs ys : List Dat} {l : List Dat} {f g h fe : E} {c d ft : ET} {fr fi : EA} {fl fh : EO} {gd : GT} {gs : GTs} {g1 g2 b : Sg} {F Gg : Dat → Dat → Option Dat} {F1 : Dat → Option Dat} {FC : List Dat → Option Dat} {G : GF} {o : Out} {k : Bool}
def kR : Option Dat → List Int → Option (Dat × List Int)
  | some z, δ => some (z, δ)
  | none, _ => none
theorem r_kR : kR (some x) δ = some (x, δ) := nrfl rfl
def kVar : Option Slot → List Int → Option (Dat × List Int)
  | some (.val x), δ => some (x, δ)
  | _, _ => none
theorem r_var : eVar i env δ = kVar (env[i]?) δ := by unfold eVar kVar; split <;> simp_all
theorem r_kVar : kVar (some (.val x)) δ = some (x, δ) := nrfl rfl
def kVarB : Option Slot → List Int → Option (Dat × List Int)
  | some (.val x), δ => some (x, δ)
  | some (.own l), δ => some (Lc.dat l, δ)
  | _, _ => none
theorem r_varB : eVarB i env δ = kVarB (env[i]?) δ := by unfold eVarB kVarB; split <;> simp_all
theorem r_kVarB : kVarB (some (.val x)) δ = some (x, δ) := nrfl rfl
theorem r_kVarB2 : kVarB (some (.own (.lst, l))) δ = some (.lst l, δ) := nrfl rfl
theorem r_kVarB3 {ks : List (List Key)} : kVarB (some (.own (.dT ks, l))) δ = some (.dT ks l, δ) := nrfl rfl
theorem r_C : eC x env δ = some (x, δ) := nrfl rfl
def kOp3 (F : Dat → Dat → Option Dat) (x : Dat) (o : Option (Dat × List Int)) : Option (Dat × List Int) := o.bind fun u => kR (F x u.1) u.2
def kOp (F : Dat → Dat → Option Dat) (g : E) (env : Ev) (o : Option (Dat × List Int)) : Option (Dat × List Int) := o.bind fun r => kOp3 F r.1 (g env r.2)
theorem r_Op : eOp F f g env δ = kOp F g env (f env δ) := by
  unfold eOp kOp kOp3
  cases f env δ with
  | none => rfl
  | some r =>
    show (g env r.2).bind _ = (g env r.2).bind _
    cases g env r.2 with
    | none => rfl
    | some u => show (F r.1 u.1).map _ = kR (F r.1 u.1) u.2; cases F r.1 u.1 <;> rfl
theorem r_kOp : kOp F g env (some (x, δ)) = kOp3 F x (g env δ) := nrfl rfl
theorem r_kOp3 : kOp3 F x (some (y, δ)) = kR (F x y) δ := nrfl rfl
def kUn (F : Dat → Option Dat) (o : Option (Dat × List Int)) : Option (Dat × List Int) := o.bind fun r => kR (F r.1) r.2
theorem r_Un : eUn F1 f env δ = kUn F1 (f env δ) := by
  unfold eUn kUn
  cases f env δ with
  | none => rfl
  | some r => show (F1 r.1).map _ = kR (F1 r.1) r.2; cases F1 r.1 <;> rfl
theorem r_kUn : kUn F1 (some (x, δ)) = kR (F1 x) δ := nrfl rfl
def kTest (o : Option (Dat × List Int)) : Option (Bool × List Int) := o.bind fun r => match r.1 with
  | .bl k => some (k, r.2)
  | _ => none
theorem r_Test : eTest f env δ = kTest (f env δ) := nrfl rfl
theorem r_kTest : kTest (some (.bl k, δ)) = some (k, δ) := nrfl rfl
def kAndT2 (k : Bool) (g : ET) (env : Ev) (δ : List Int) : Option (Bool × List Int) := if k = true then g env δ else some (false, δ)
def kAndT (g : ET) (env : Ev) (o : Option (Bool × List Int)) : Option (Bool × List Int) := o.bind fun r => kAndT2 r.1 g env r.2
theorem r_AndT : eAndT c d env δ = kAndT d env (c env δ) := nrfl rfl
theorem r_kAndT : kAndT d env (some (k, δ)) = kAndT2 k d env δ := nrfl rfl
theorem r_kAndT2t : kAndT2 true d env δ = d env δ := nrfl rfl
theorem r_kAndT2f : kAndT2 false d env δ = some (false, δ) := nrfl rfl
def kOrT2 (k : Bool) (g : ET) (env : Ev) (δ : List Int) : Option (Bool × List Int) := if k = true then some (true, δ) else g env δ
def kOrT (g : ET) (env : Ev) (o : Option (Bool × List Int)) : Option (Bool × List Int) := o.bind fun r => kOrT2 r.1 g env r.2
theorem r_OrT : eOrT c d env δ = kOrT d env (c env δ) := nrfl rfl
theorem r_kOrT : kOrT d env (some (k, δ)) = kOrT2 k d env δ := nrfl rfl
theorem r_kOrT2t : kOrT2 true d env δ = some (true, δ) := nrfl rfl
theorem r_kOrT2f : kOrT2 false d env δ = d env δ := nrfl rfl
def kNotT (o : Option (Bool × List Int)) : Option (Bool × List Int) := o.map fun r => (!r.1, r.2)
theorem r_NotT : eNotT c env δ = kNotT (c env δ) := nrfl rfl
theorem r_kNotT : kNotT (some (k, δ)) = some (!k, δ) := nrfl rfl
def kAnd2 (k : Bool) (g : E) (env : Ev) (δ : List Int) : Option (Dat × List Int) := if k = true then g env δ else some (.bl false, δ)
def kAnd (g : E) (env : Ev) (o : Option (Dat × List Int)) : Option (Dat × List Int) := o.bind fun r => match r.1 with
  | .bl k => kAnd2 k g env r.2
  | _ => none
theorem r_And : eAnd f g env δ = kAnd g env (f env δ) := by
  unfold eAnd kAnd
  cases f env δ with
  | none => rfl
  | some r =>
    obtain ⟨x, d⟩ := r
    cases x <;> first | rfl | skip
    rename_i b
    cases b <;> rfl
theorem r_kAnd : kAnd g env (some (.bl k, δ)) = kAnd2 k g env δ := nrfl rfl
theorem r_kAnd2t : kAnd2 true g env δ = g env δ := nrfl rfl
theorem r_kAnd2f : kAnd2 false g env δ = some (.bl false, δ) := nrfl rfl
def kOr2 (k : Bool) (g : E) (env : Ev) (δ : List Int) : Option (Dat × List Int) := if k = true then some (.bl true, δ) else g env δ
def kOr (g : E) (env : Ev) (o : Option (Dat × List Int)) : Option (Dat × List Int) := o.bind fun r => match r.1 with
  | .bl k => kOr2 k g env r.2
  | _ => none
theorem r_Or : eOr f g env δ = kOr g env (f env δ) := by
  unfold eOr kOr
  cases f env δ with
  | none => rfl
  | some r =>
    obtain ⟨x, d⟩ := r
    cases x <;> first | rfl | skip
    rename_i b
    cases b <;> rfl
theorem r_kOr : kOr g env (some (.bl k, δ)) = kOr2 k g env δ := nrfl rfl
theorem r_kOr2t : kOr2 true g env δ = some (.bl true, δ) := nrfl rfl
theorem r_kOr2f : kOr2 false g env δ = g env δ := nrfl rfl
def kNot (o : Option (Dat × List Int)) : Option (Dat × List Int) := o.bind fun r => match r.1 with
  | .bl k => some (.bl (!k), r.2)
  | _ => none
theorem r_Not : eNot f env δ = kNot (f env δ) := nrfl rfl
theorem r_kNot : kNot (some (.bl k, δ)) = some (.bl (!k), δ) := nrfl rfl
def kTru2 : Option Bool → List Int → Option (Bool × List Int)
  | some k, δ => some (k, δ)
  | none, _ => none
def kTru (o : Option (Dat × List Int)) : Option (Bool × List Int) := o.bind fun r => kTru2 (truD r.1) r.2
theorem r_Tru : eTru f env δ = kTru (f env δ) := by
  unfold eTru kTru
  cases f env δ with
  | none => rfl
  | some r => show (truD r.1).map _ = kTru2 (truD r.1) r.2; cases truD r.1 <;> rfl
theorem r_kTru : kTru (some (x, δ)) = kTru2 (truD x) δ := nrfl rfl
theorem r_kTru2 : kTru2 (some k) δ = some (k, δ) := nrfl rfl
theorem r_truB : truD (.bl k) = some k := nrfl rfl
theorem r_truI {n : Int} : truD (.int n) = some (n != 0) := nrfl rfl
theorem r_truL : truD (.lst xs) = some (!xs.isEmpty) := nrfl rfl
theorem r_truN : truD .non = some false := nrfl rfl
def kIfE2 (k : Bool) (f g : E) (env : Ev) (δ : List Int) : Option (Dat × List Int) := if k = true then f env δ else g env δ
def kIfE (f g : E) (env : Ev) (o : Option (Bool × List Int)) : Option (Dat × List Int) := o.bind fun r => kIfE2 r.1 f g env r.2
theorem r_IfE : eIf c f g env δ = kIfE f g env (c env δ) := nrfl rfl
theorem r_kIfE : kIfE f g env (some (k, δ)) = kIfE2 k f g env δ := nrfl rfl
theorem r_kIfEt : kIfE2 true f g env δ = f env δ := nrfl rfl
theorem r_kIfEf : kIfE2 false f g env δ = g env δ := nrfl rfl
def kCons2 (x : Dat) (o : Option (List Dat × List Int)) : Option (List Dat × List Int) := o.map fun u => (x :: u.1, u.2)
def kCons (g : EA) (env : Ev) (o : Option (Dat × List Int)) : Option (List Dat × List Int) := o.bind fun r => kCons2 r.1 (g env r.2)
theorem r_nil : aNil env δ = some ([], δ) := nrfl rfl
theorem r_cons : aCons f fr env δ = kCons fr env (f env δ) := nrfl rfl
theorem r_kCons : kCons fr env (some (x, δ)) = kCons2 x (fr env δ) := nrfl rfl
theorem r_kCons2 : kCons2 x (some (xs, δ)) = some (x :: xs, δ) := nrfl rfl
def kTup (o : Option (List Dat × List Int)) : Option (Dat × List Int) := o.bind fun r => if r.1.length < 1000000 then some (.tup r.1, r.2) else none
theorem r_Tup : eTup fr env δ = kTup (fr env δ) := nrfl rfl
theorem r_kTup0 : kTup (some ([], δ)) = some (.tup [], δ) := nrfl rfl
theorem r_kTup1 {x0 : Dat} : kTup (some ([x0], δ)) = some (.tup [x0], δ) := nrfl rfl
theorem r_kTup2 {x0 x1 : Dat} : kTup (some ([x0, x1], δ)) = some (.tup [x0, x1], δ) := nrfl rfl
theorem r_kTup3 {x0 x1 x2 : Dat} : kTup (some ([x0, x1, x2], δ)) = some (.tup [x0, x1, x2], δ) := nrfl rfl
theorem r_kTup4 {x0 x1 x2 x3 : Dat} : kTup (some ([x0, x1, x2, x3], δ)) = some (.tup [x0, x1, x2, x3], δ) := nrfl rfl
theorem r_kTup5 {x0 x1 x2 x3 x4 : Dat} : kTup (some ([x0, x1, x2, x3, x4], δ)) = some (.tup [x0, x1, x2, x3, x4], δ) := nrfl rfl
theorem r_kTup6 {x0 x1 x2 x3 x4 x5 : Dat} : kTup (some ([x0, x1, x2, x3, x4, x5], δ)) = some (.tup [x0, x1, x2, x3, x4, x5], δ) := nrfl rfl
theorem r_kTup7 {x0 x1 x2 x3 x4 x5 x6 : Dat} : kTup (some ([x0, x1, x2, x3, x4, x5, x6], δ)) = some (.tup [x0, x1, x2, x3, x4, x5, x6], δ) := nrfl rfl
theorem r_kTup8 {x0 x1 x2 x3 x4 x5 x6 x7 : Dat} : kTup (some ([x0, x1, x2, x3, x4, x5, x6, x7], δ)) = some (.tup [x0, x1, x2, x3, x4, x5, x6, x7], δ) := nrfl rfl
theorem r_kTup9 {x0 x1 x2 x3 x4 x5 x6 x7 x8 : Dat} : kTup (some ([x0, x1, x2, x3, x4, x5, x6, x7, x8], δ)) = some (.tup [x0, x1, x2, x3, x4, x5, x6, x7, x8], δ) := nrfl rfl
def kLst (o : Option (List Dat × List Int)) : Option (Dat × List Int) := o.bind fun r => if r.1.length < 1000000 then some (.lst r.1, r.2) else none
theorem r_Lst : eLst fr env δ = kLst (fr env δ) := nrfl rfl
theorem r_kLst0 : kLst (some ([], δ)) = some (.lst [], δ) := nrfl rfl
theorem r_kLst1 {x0 : Dat} : kLst (some ([x0], δ)) = some (.lst [x0], δ) := nrfl rfl
theorem r_kLst2 {x0 x1 : Dat} : kLst (some ([x0, x1], δ)) = some (.lst [x0, x1], δ) := nrfl rfl
theorem r_kLst3 {x0 x1 x2 : Dat} : kLst (some ([x0, x1, x2], δ)) = some (.lst [x0, x1, x2], δ) := nrfl rfl
theorem r_kLst4 {x0 x1 x2 x3 : Dat} : kLst (some ([x0, x1, x2, x3], δ)) = some (.lst [x0, x1, x2, x3], δ) := nrfl rfl
theorem r_kLst5 {x0 x1 x2 x3 x4 : Dat} : kLst (some ([x0, x1, x2, x3, x4], δ)) = some (.lst [x0, x1, x2, x3, x4], δ) := nrfl rfl
theorem r_kLst6 {x0 x1 x2 x3 x4 x5 : Dat} : kLst (some ([x0, x1, x2, x3, x4, x5], δ)) = some (.lst [x0, x1, x2, x3, x4, x5], δ) := nrfl rfl
theorem r_kLst7 {x0 x1 x2 x3 x4 x5 x6 : Dat} : kLst (some ([x0, x1, x2, x3, x4, x5, x6], δ)) = some (.lst [x0, x1, x2, x3, x4, x5, x6], δ) := nrfl rfl
theorem r_kLst8 {x0 x1 x2 x3 x4 x5 x6 x7 : Dat} : kLst (some ([x0, x1, x2, x3, x4, x5, x6, x7], δ)) = some (.lst [x0, x1, x2, x3, x4, x5, x6, x7], δ) := nrfl rfl
theorem r_kLst9 {x0 x1 x2 x3 x4 x5 x6 x7 x8 : Dat} : kLst (some ([x0, x1, x2, x3, x4, x5, x6, x7, x8], δ)) = some (.lst [x0, x1, x2, x3, x4, x5, x6, x7, x8], δ) := nrfl rfl
def kFL (o : Option (List Dat × List Int)) : Option (List Dat × List Int) := o.bind fun r => if r.1.length < 1000000 then some (r.1, r.2) else none
theorem r_FL : fLst fr env δ = kFL (fr env δ) := nrfl rfl
theorem r_kFL0 : kFL (some ([], δ)) = some ([], δ) := nrfl rfl
theorem r_kFL1 {x0 : Dat} : kFL (some ([x0], δ)) = some ([x0], δ) := nrfl rfl
theorem r_kFL2 {x0 x1 : Dat} : kFL (some ([x0, x1], δ)) = some ([x0, x1], δ) := nrfl rfl
theorem r_kFL3 {x0 x1 x2 : Dat} : kFL (some ([x0, x1, x2], δ)) = some ([x0, x1, x2], δ) := nrfl rfl
theorem r_kFL4 {x0 x1 x2 x3 : Dat} : kFL (some ([x0, x1, x2, x3], δ)) = some ([x0, x1, x2, x3], δ) := nrfl rfl
theorem r_kFL5 {x0 x1 x2 x3 x4 : Dat} : kFL (some ([x0, x1, x2, x3, x4], δ)) = some ([x0, x1, x2, x3, x4], δ) := nrfl rfl
theorem r_kFL6 {x0 x1 x2 x3 x4 x5 : Dat} : kFL (some ([x0, x1, x2, x3, x4, x5], δ)) = some ([x0, x1, x2, x3, x4, x5], δ) := nrfl rfl
theorem r_kFL7 {x0 x1 x2 x3 x4 x5 x6 : Dat} : kFL (some ([x0, x1, x2, x3, x4, x5, x6], δ)) = some ([x0, x1, x2, x3, x4, x5, x6], δ) := nrfl rfl
theorem r_kFL8 {x0 x1 x2 x3 x4 x5 x6 x7 : Dat} : kFL (some ([x0, x1, x2, x3, x4, x5, x6, x7], δ)) = some ([x0, x1, x2, x3, x4, x5, x6, x7], δ) := nrfl rfl
theorem r_kFL9 {x0 x1 x2 x3 x4 x5 x6 x7 x8 : Dat} : kFL (some ([x0, x1, x2, x3, x4, x5, x6, x7, x8], δ)) = some ([x0, x1, x2, x3, x4, x5, x6, x7, x8], δ) := nrfl rfl
def kB (F : List Dat → Option Dat) (o : Option (List Dat × List Int)) : Option (Dat × List Int) := o.bind fun r => kR (F r.1) r.2
theorem r_B : eB FC fr env δ = kB FC (fr env δ) := by
  unfold eB kB
  cases fr env δ with
  | none => rfl
  | some r => show (FC r.1).map _ = kR (FC r.1) r.2; cases FC r.1 <;> rfl
theorem r_kB : kB FC (some (xs, δ)) = kR (FC xs) δ := nrfl rfl
def kCall (G : GF) (n : Nat) (o : Option (List Dat × List Int)) : Option (Dat × List Int) := o.bind fun r => if r.1.length = n then G r.1 r.2 else none
theorem r_Call : eCall G n fr env δ = kCall G n (fr env δ) := nrfl rfl
theorem r_kCall0 : kCall G (List.length (α := Str) []) (some ([], δ)) = G [] δ := nrfl rfl
theorem r_kCallI0  {q : Str} : kCall G (List.length (α := Str) [q] - 1) (some ([], δ)) = G [] δ := nrfl rfl
theorem r_kCall1 {x0 : Dat} {p0 : Str} : kCall G (List.length (α := Str) [p0]) (some ([x0], δ)) = G [x0] δ := nrfl rfl
theorem r_kCallI1 {x0 : Dat} {p0 : Str} {q : Str} : kCall G (List.length (α := Str) [q, p0] - 1) (some ([x0], δ)) = G [x0] δ := nrfl rfl
theorem r_kCall2 {x0 x1 : Dat} {p0 p1 : Str} : kCall G (List.length (α := Str) [p0, p1]) (some ([x0, x1], δ)) = G [x0, x1] δ := nrfl rfl
theorem r_kCallI2 {x0 x1 : Dat} {p0 p1 : Str} {q : Str} : kCall G (List.length (α := Str) [q, p0, p1] - 1) (some ([x0, x1], δ)) = G [x0, x1] δ := nrfl rfl
theorem r_kCall3 {x0 x1 x2 : Dat} {p0 p1 p2 : Str} : kCall G (List.length (α := Str) [p0, p1, p2]) (some ([x0, x1, x2], δ)) = G [x0, x1, x2] δ := nrfl rfl
theorem r_kCallI3 {x0 x1 x2 : Dat} {p0 p1 p2 : Str} {q : Str} : kCall G (List.length (α := Str) [q, p0, p1, p2] - 1) (some ([x0, x1, x2], δ)) = G [x0, x1, x2] δ := nrfl rfl
theorem r_kCall4 {x0 x1 x2 x3 : Dat} {p0 p1 p2 p3 : Str} : kCall G (List.length (α := Str) [p0, p1, p2, p3]) (some ([x0, x1, x2, x3], δ)) = G [x0, x1, x2, x3] δ := nrfl rfl
theorem r_kCallI4 {x0 x1 x2 x3 : Dat} {p0 p1 p2 p3 : Str} {q : Str} : kCall G (List.length (α := Str) [q, p0, p1, p2, p3] - 1) (some ([x0, x1, x2, x3], δ)) = G [x0, x1, x2, x3] δ := nrfl rfl
theorem r_kCall5 {x0 x1 x2 x3 x4 : Dat} {p0 p1 p2 p3 p4 : Str} : kCall G (List.length (α := Str) [p0, p1, p2, p3, p4]) (some ([x0, x1, x2, x3, x4], δ)) = G [x0, x1, x2, x3, x4] δ := nrfl rfl
theorem r_kCallI5 {x0 x1 x2 x3 x4 : Dat} {p0 p1 p2 p3 p4 : Str} {q : Str} : kCall G (List.length (α := Str) [q, p0, p1, p2, p3, p4] - 1) (some ([x0, x1, x2, x3, x4], δ)) = G [x0, x1, x2, x3, x4] δ := nrfl rfl
theorem r_kCall6 {x0 x1 x2 x3 x4 x5 : Dat} {p0 p1 p2 p3 p4 p5 : Str} : kCall G (List.length (α := Str) [p0, p1, p2, p3, p4, p5]) (some ([x0, x1, x2, x3, x4, x5], δ)) = G [x0, x1, x2, x3, x4, x5] δ := nrfl rfl
theorem r_kCallI6 {x0 x1 x2 x3 x4 x5 : Dat} {p0 p1 p2 p3 p4 p5 : Str} {q : Str} : kCall G (List.length (α := Str) [q, p0, p1, p2, p3, p4, p5] - 1) (some ([x0, x1, x2, x3, x4, x5], δ)) = G [x0, x1, x2, x3, x4, x5] δ := nrfl rfl
def kO (o : Option (Dat × List Int)) : Option (Option Int × List Int) := o.bind fun r => match r.1 with
  | .int i => some (some i, r.2)
  | _ => none
theorem r_oN : oNone env δ = some (none, δ) := nrfl rfl
theorem r_oS : oSome f env δ = kO (f env δ) := nrfl rfl
theorem r_kO {n : Int} : kO (some (.int n, δ)) = some (some n, δ) := nrfl rfl
def kSl3 (x : Dat) (lo : Option Int) (o : Option (Option Int × List Int)) : Option (Dat × List Int) := o.bind fun w => kR (dSl x lo w.1) w.2
def kSl2 (x : Dat) (fh : EO) (env : Ev) (o : Option (Option Int × List Int)) : Option (Dat × List Int) := o.bind fun u => kSl3 x u.1 (fh env u.2)
def kSl (fl fh : EO) (env : Ev) (o : Option (Dat × List Int)) : Option (Dat × List Int) := o.bind fun r => kSl2 r.1 fh env (fl env r.2)
theorem r_Sl : eSl f fl fh env δ = kSl fl fh env (f env δ) := by
  unfold eSl kSl kSl2 kSl3
  cases f env δ with
  | none => rfl
  | some r =>
    show (fl env r.2).bind _ = (fl env r.2).bind _
    cases fl env r.2 with
    | none => rfl
    | some u =>
      show (fh env u.2).bind _ = (fh env u.2).bind _
      cases fh env u.2 with
      | none => rfl
      | some v => show (dSl r.1 u.1 v.1).map _ = kR (dSl r.1 u.1 v.1) v.2; cases dSl r.1 u.1 v.1 <;> rfl
theorem r_kSl : kSl fl fh env (some (x, δ)) = kSl2 x fh env (fl env δ) := nrfl rfl
theorem r_kSl2 {lo : Option Int} : kSl2 x fh env (some (lo, δ)) = kSl3 x lo (fh env δ) := nrfl rfl
theorem r_kSl3 {lo hi : Option Int} : kSl3 x lo (some (hi, δ)) = kR (dSl x lo hi) δ := nrfl rfl
def kKd (tbl : Str → Option Dat) (o : Option (Dat × List Int)) : Option (Dat × List Int) := o.bind fun r => match r.1 with
  | .str z => kR (tbl z) r.2
  | _ => none
theorem r_Kd {tbl : Str → Option Dat} : eKd tbl f env δ = kKd tbl (f env δ) := by
  unfold eKd kKd
  cases f env δ with
  | none => rfl
  | some r =>
    obtain ⟨x, d⟩ := r
    cases x <;> first | rfl | skip
    rename_i z
    show (tbl z).map _ = kR (tbl z) d
    cases tbl z <;> rfl
theorem r_kKd {tbl : Str → Option Dat} {s : Str} : kKd tbl (some (.str s, δ)) = kR (tbl s) δ := nrfl rfl
def kCh4 (G : Dat → Dat → Option Dat) (y : Dat) (o : Option (Dat × List Int)) : Option (Dat × List Int) := o.bind fun w => kR (G y w.1) w.2
def kCh3 (z : Option Dat) (G : Dat → Dat → Option Dat) (y : Dat) (h : E) (env : Ev) (δ : List Int) : Option (Dat × List Int) := match z with
  | some (.bl true) => kCh4 G y (h env δ)
  | some (.bl false) => some (.bl false, δ)
  | _ => none
def kCh2 (F G : Dat → Dat → Option Dat) (x : Dat) (h : E) (env : Ev) (o : Option (Dat × List Int)) : Option (Dat × List Int) := o.bind fun u => kCh3 (F x u.1) G u.1 h env u.2
def kCh (F G : Dat → Dat → Option Dat) (g h : E) (env : Ev) (o : Option (Dat × List Int)) : Option (Dat × List Int) := o.bind fun r => kCh2 F G r.1 h env (g env r.2)
theorem r_Ch : eChain F Gg f g h env δ = kCh F Gg g h env (f env δ) := by
  unfold eChain kCh kCh2 kCh3 kCh4
  cases f env δ with
  | none => rfl
  | some r =>
    show (g env r.2).bind _ = (g env r.2).bind _
    cases g env r.2 with
    | none => rfl
    | some u =>
      show ((F r.1 u.1).bind fun z => match z with
        | .bl true => (h env u.2).bind fun w => (Gg u.1 w.1).map fun z => (z, w.2)
        | .bl false => some (.bl false, u.2)
        | _ => none) = kCh3 (F r.1 u.1) Gg u.1 h env u.2
      cases F r.1 u.1 with
      | none => rfl
      | some z =>
        cases z with
        | bl b =>
          cases b with
          | false => rfl
          | true =>
            show (h env u.2).bind _ = (h env u.2).bind _
            cases h env u.2 with
            | none => rfl
            | some v => show (Gg u.1 v.1).map _ = kR (Gg u.1 v.1) v.2; cases Gg u.1 v.1 <;> rfl
        | _ => rfl
theorem r_kCh : kCh F Gg g h env (some (x, δ)) = kCh2 F Gg x h env (g env δ) := nrfl rfl
theorem r_kCh2 : kCh2 F Gg x h env (some (y, δ)) = kCh3 (F x y) Gg y h env δ := nrfl rfl
theorem r_kCh3t : kCh3 (some (.bl true)) Gg y h env δ = kCh4 Gg y (h env δ) := nrfl rfl
theorem r_kCh3f : kCh3 (some (.bl false)) Gg y h env δ = some (.bl false, δ) := nrfl rfl
theorem r_kCh4 : kCh4 Gg y (some (z, δ)) = kR (Gg y z) δ := nrfl rfl
def kF (o : Option (List Dat × List Int)) : Option (Dat × List Int) := o.map fun r => (.lst r.1, r.2)
theorem r_F : eF fr env δ = kF (fr env δ) := nrfl rfl
theorem r_kF : kF (some (xs, δ)) = some (.lst xs, δ) := nrfl rfl
def kRun (o : Option Out) : Option (Dat × List Int) := match o with
  | some (.rt x δ') => some (x, δ')
  | some (.nx _ δ') => some (.non, δ')
  | _ => none
theorem r_run {N : List Str} : runG N b xs δ = kRun (b (startE N xs) δ) := by unfold runG kRun; split <;> simp_all
theorem r_kRun : kRun (some (.rt x δ)) = some (x, δ) := nrfl rfl
theorem r_kRun2 : kRun (some (.nx env δ)) = some (.non, δ) := nrfl rfl
def kTg (gs : GTs) (xs : List Dat) (o : Option Ev) : Option Ev := o.bind fun e => gs xs e
theorem r_tgN : tgName i x env = some (env.set i (.val x)) := nrfl rfl
theorem r_tgC : tgCons gd gs (x :: xs) env = kTg gs xs (gd x env) := nrfl rfl
theorem r_kTg : kTg gs xs (some env) = gs xs env := nrfl rfl
theorem r_tg0 : tgNil [] env = some env := nrfl rfl
theorem r_tgtup1 {x0 : Dat} : tgTup 1 gs (.tup [x0]) env = gs [x0] env := nrfl rfl
theorem r_tgctup1 {x0 : Dat} : tgTup 1 gs (.ctup [x0]) env = gs [x0] env := nrfl rfl
theorem r_tgtup2 {x0 x1 : Dat} : tgTup 2 gs (.tup [x0, x1]) env = gs [x0, x1] env := nrfl rfl
theorem r_tgctup2 {x0 x1 : Dat} : tgTup 2 gs (.ctup [x0, x1]) env = gs [x0, x1] env := nrfl rfl
theorem r_tgtup3 {x0 x1 x2 : Dat} : tgTup 3 gs (.tup [x0, x1, x2]) env = gs [x0, x1, x2] env := nrfl rfl
theorem r_tgctup3 {x0 x1 x2 : Dat} : tgTup 3 gs (.ctup [x0, x1, x2]) env = gs [x0, x1, x2] env := nrfl rfl
theorem r_tgtup4 {x0 x1 x2 x3 : Dat} : tgTup 4 gs (.tup [x0, x1, x2, x3]) env = gs [x0, x1, x2, x3] env := nrfl rfl
theorem r_tgctup4 {x0 x1 x2 x3 : Dat} : tgTup 4 gs (.ctup [x0, x1, x2, x3]) env = gs [x0, x1, x2, x3] env := nrfl rfl
theorem r_tgtup5 {x0 x1 x2 x3 x4 : Dat} : tgTup 5 gs (.tup [x0, x1, x2, x3, x4]) env = gs [x0, x1, x2, x3, x4] env := nrfl rfl
theorem r_tgctup5 {x0 x1 x2 x3 x4 : Dat} : tgTup 5 gs (.ctup [x0, x1, x2, x3, x4]) env = gs [x0, x1, x2, x3, x4] env := nrfl rfl
def kAsg2 (o : Option Ev) (δ : List Int) : Option Out := o.map fun e => .nx e δ
def kAsg (gd : GT) (env : Ev) (o : Option (Dat × List Int)) : Option Out := o.bind fun r => kAsg2 (gd r.1 env) r.2
theorem r_Asg : gAsg gd f env δ = kAsg gd env (f env δ) := nrfl rfl
theorem r_kAsg : kAsg gd env (some (x, δ)) = kAsg2 (gd x env) δ := nrfl rfl
theorem r_kAsg2 : kAsg2 (some env) δ = some (.nx env δ) := nrfl rfl
def kSeq (g : Sg) (o : Option Out) : Option Out := o.bind fun o => match o with
  | .nx env' δ' => g env' δ'
  | o => some o
theorem r_Seq : gSeq g1 g2 env δ = kSeq g2 (g1 env δ) := nrfl rfl
theorem r_kSeq : kSeq b (some (.nx env δ)) = b env δ := nrfl rfl
theorem r_kSeqR : kSeq b (some (.rt x δ)) = some (.rt x δ) := nrfl rfl
theorem r_kSeqB : kSeq b (some (.bk env δ)) = some (.bk env δ) := nrfl rfl
theorem r_kSeqC : kSeq b (some (.ct env δ)) = some (.ct env δ) := nrfl rfl
theorem r_next : gNext env δ = some (.nx env δ) := nrfl rfl
theorem r_break : gBreak env δ = some (.bk env δ) := nrfl rfl
theorem r_cont : gCont env δ = some (.ct env δ) := nrfl rfl
def kRet (o : Option (Dat × List Int)) : Option Out := o.map fun r => .rt r.1 r.2
theorem r_Ret : gRet f env δ = kRet (f env δ) := nrfl rfl
theorem r_kRet : kRet (some (x, δ)) = some (.rt x δ) := nrfl rfl
theorem r_RetN : gRetN env δ = some (.rt .non δ) := nrfl rfl
def kRo (o : Option Slot) (δ : List Int) : Option Out := match o with
  | some (.own (.lst, l)) => some (.rt (.lst l) δ)
  | _ => none
def kRc (o : Option Slot) (δ : List Int) : Option Out := match o with
  | some (.own l) => some (.rt (Lc.dat l) δ)
  | _ => none
theorem r_RO : gRetOwn i env δ = kRo (env[i]?) δ := by unfold gRetOwn kRo; split <;> simp_all
theorem r_kRo : kRo (some (.own (.lst, l))) δ = some (.rt (.lst l) δ) := nrfl rfl
theorem r_RC : gRetC i env δ = kRc (env[i]?) δ := by unfold gRetC kRc; split <;> simp_all
theorem r_kRc {ks : List (List Key)} : kRc (some (.own (.dT ks, l))) δ = some (.rt (.dT ks l) δ) := nrfl rfl
theorem r_kRcL : kRc (some (.own (.lst, l))) δ = some (.rt (.lst l) δ) := nrfl rfl
def kIf2 (k : Bool) (g1 g2 : Sg) (env : Ev) (δ : List Int) : Option Out := if k = true then g1 env δ else g2 env δ
def kIf (g1 g2 : Sg) (env : Ev) (o : Option (Bool × List Int)) : Option Out := o.bind fun r => kIf2 r.1 g1 g2 env r.2
theorem r_If : gIf c g1 g2 env δ = kIf g1 g2 env (c env δ) := nrfl rfl
theorem r_kIf : kIf g1 g2 env (some (k, δ)) = kIf2 k g1 g2 env δ := nrfl rfl
theorem r_kIft : kIf2 true g1 g2 env δ = g1 env δ := nrfl rfl
theorem r_kIff : kIf2 false g1 g2 env δ = g2 env δ := nrfl rfl
def kOwn (i : Nat) (env : Ev) (o : Option (List Dat × List Int)) : Option Out := o.map fun r => .nx (env.set i (.own (.lst, r.1))) r.2
theorem r_Own : gOwn i fr env δ = kOwn i env (fr env δ) := nrfl rfl
theorem r_kOwn : kOwn i env (some (xs, δ)) = some (.nx (env.set i (.own (.lst, xs))) δ) := nrfl rfl
def kApp2 (i : Nat) (env : Ev) (s : Option Slot) (x : Dat) (δ : List Int) : Option Out := match s with
  | some (.own (.lst, l)) => if l.length < 1000000 then some (.nx (env.set i (.own (.lst, (l ++ [x])))) δ) else none
  | _ => none
def kApp (i : Nat) (env : Ev) (o : Option (Dat × List Int)) : Option Out := o.bind fun r => kApp2 i env (env[i]?) r.1 r.2
theorem r_App : gAppend i f env δ = kApp i env (f env δ) := by
  unfold gAppend kApp kApp2
  cases f env δ with
  | none => rfl
  | some r => show (match env[i]? with | some (.own (.lst, l)) => _ | _ => _) = _; split <;> simp_all
theorem r_kApp : kApp i env (some (x, δ)) = kApp2 i env (env[i]?) x δ := nrfl rfl
theorem r_kApp2 : kApp2 i env (some (.own (.lst, l))) x δ = if l.length < 1000000 then some (.nx (env.set i (.own (.lst, (l ++ [x])))) δ) else none := nrfl rfl
def kPop (i : Nat) (env : Ev) (s : Option Slot) (δ : List Int) : Option Out := match s with
  | some (.own (.lst, l)) => if l = [] then none else some (.nx (env.set i (.own (.lst, l.dropLast))) δ)
  | _ => none
def kFrz (i : Nat) (g : Sg) (env : Ev) (s : Option Slot) (δ : List Int) : Option Out := match s with
  | some (.own (.lst, l)) => g (env.set i (.val (.lst l))) δ
  | _ => none
def kFrzT (i : Nat) (g : Sg) (env : Ev) (s : Option Slot) (δ : List Int) : Option Out := match s with
  | some (.own (.dT ks, l)) => g (env.set i (.val (.dT ks l))) δ
  | _ => none
theorem r_Pop : gPop i env δ = kPop i env (env[i]?) δ := by unfold gPop kPop; split <;> simp_all
theorem r_kPop : kPop i env (some (.own (.lst, l))) δ = if l = [] then none else some (.nx (env.set i (.own (.lst, l.dropLast))) δ) := nrfl rfl
theorem r_Frz : gFreeze i b env δ = kFrz i b env (env[i]?) δ := by unfold gFreeze kFrz; split <;> simp_all
theorem r_kFrz : kFrz i b env (some (.own (.lst, l))) δ = b (env.set i (.val (.lst l))) δ := nrfl rfl
theorem r_FrzT : gFreezeT i b env δ = kFrzT i b env (env[i]?) δ := by unfold gFreezeT kFrzT; split <;> simp_all
theorem r_kFrzT {ks : List (List Key)} : kFrzT i b env (some (.own (.dT ks, l))) δ = b (env.set i (.val (.dT ks l))) δ := nrfl rfl
def kForS2 (gd : GT) (b : Sg) (xs : List Dat) (o : Option Out) : Option Out := o.bind fun o => match o with
  | .nx env' δ' => forD gd b xs env' δ'
  | .ct env' δ' => forD gd b xs env' δ'
  | .bk env' δ' => some (.nx env' δ')
  | .rt x δ' => some (.rt x δ')
def kForS (gd : GT) (b : Sg) (xs : List Dat) (o : Option Ev) (δ : List Int) : Option Out := o.bind fun e => kForS2 gd b xs (b e δ)
def kFor (gd : GT) (b : Sg) (env : Ev) (o : Option (List Dat × List Int)) : Option Out := o.bind fun r => forD gd b r.1 env r.2
theorem r_For : gFor fi gd b env δ = kFor gd b env (fi env δ) := nrfl rfl
theorem r_kFor : kFor gd b env (some (xs, δ)) = forD gd b xs env δ := nrfl rfl
theorem r_for0 : forD gd b [] env δ = some (.nx env δ) := nrfl rfl
theorem r_forS : forD gd b (x :: xs) env δ = kForS gd b xs (gd x env) δ := nrfl rfl
theorem r_kForS : kForS gd b xs (some env) δ = kForS2 gd b xs (b env δ) := nrfl rfl
theorem r_kForN : kForS2 gd b xs (some (.nx env δ)) = forD gd b xs env δ := nrfl rfl
theorem r_kForC : kForS2 gd b xs (some (.ct env δ)) = forD gd b xs env δ := nrfl rfl
theorem r_kForB : kForS2 gd b xs (some (.bk env δ)) = some (.nx env δ) := nrfl rfl
theorem r_kForR : kForS2 gd b xs (some (.rt x δ)) = some (.rt x δ) := nrfl rfl
def kLstW (o : Option (Dat × List Int)) : Option (List Dat × List Int) := o.bind fun r => match r.1 with
  | .lst xs => some (xs, r.2)
  | _ => none
def kTupW (o : Option (Dat × List Int)) : Option (List Dat × List Int) := o.bind fun r => match r.1 with
  | .tup xs => some (xs, r.2)
  | .ctup xs => some (xs, r.2)
  | _ => none
def kStrW (o : Option (Dat × List Int)) : Option (List Dat × List Int) := o.bind fun r => match r.1 with
  | .str z => some (z.cps.toList.map fun c => .str ⟨#[c]⟩, r.2)
  | _ => none
def kR1 (o : Option (List Dat × List Int)) : Option (List Dat × List Int) := o.bind fun r => match r.1 with
  | [.int j] => if bnd j = true then some (rangeD 0 j, r.2) else none
  | _ => none
def kR2 (o : Option (List Dat × List Int)) : Option (List Dat × List Int) := o.bind fun r => match r.1 with
  | [.int i, .int j] => if (bnd i && bnd j) = true then some (rangeD i j, r.2) else none
  | _ => none
def kR3 (o : Option (List Dat × List Int)) : Option (List Dat × List Int) := o.bind fun r => match r.1 with
  | [.int i, .int j, .int c] => if rgOk i j c = true then some (rangeC i j c, r.2) else none
  | _ => none
def kEn (o : Option (Dat × List Int)) : Option (List Dat × List Int) := o.bind fun r => match r.1 with
  | .lst xs => some (enumD xs, r.2)
  | _ => none
theorem r_iL : iLst f env δ = kLstW (f env δ) := nrfl rfl
theorem r_kLstW : kLstW (some (.lst xs, δ)) = some (xs, δ) := nrfl rfl
theorem r_iT : iTupD f env δ = kTupW (f env δ) := nrfl rfl
theorem r_kTupW : kTupW (some (.tup xs, δ)) = some (xs, δ) := nrfl rfl
theorem r_kTupW2 : kTupW (some (.ctup xs, δ)) = some (xs, δ) := nrfl rfl
theorem r_iS : iStrD f env δ = kStrW (f env δ) := nrfl rfl
theorem r_kStrW {w : List Nat} : kStrW (some (.str (S w), δ)) = some (w.map ltrD, δ) := nrfl rfl
theorem r_iR1 : iR1 fr env δ = kR1 (fr env δ) := nrfl rfl
theorem r_kR1 {n : Int} : kR1 (some ([.int n], δ)) = if bnd n = true then some (rangeD 0 n, δ) else none := nrfl rfl
theorem r_iR2 : iR2 fr env δ = kR2 (fr env δ) := nrfl rfl
theorem r_kR2 {m n : Int} : kR2 (some ([.int m, .int n], δ)) = if (bnd m && bnd n) = true then some (rangeD m n, δ) else none := nrfl rfl
theorem r_iR3 : iR3 fr env δ = kR3 (fr env δ) := nrfl rfl
theorem r_kR3 {m n c : Int} : kR3 (some ([.int m, .int n, .int c], δ)) = if rgOk m n c = true then some (rangeC m n c, δ) else none := nrfl rfl
theorem r_iEn : iEn f env δ = kEn (f env δ) := nrfl rfl
theorem r_kEn : kEn (some (.lst xs, δ)) = some (enumD xs, δ) := nrfl rfl
def kEnS (o : Option (Dat × List Int)) : Option (List Dat × List Int) := o.bind fun r => match r.1 with
  | .str z => some (enumD (z.cps.toList.map fun c => .str ⟨#[c]⟩), r.2)
  | _ => none
theorem r_iEnS : iEnS f env δ = kEnS (f env δ) := nrfl rfl
theorem r_kEnS {w : List Nat} : kEnS (some (.str (S w), δ)) = some (enumD (w.map ltrD), δ) := nrfl rfl
def nOw : Option Slot → Bool
  | some (.own _) => false
  | _ => true
theorem r_nOw0 : noOwn env [] = true := nrfl rfl
theorem r_nOw {v : Nat} {vs : List Nat} : noOwn env (v :: vs) = (nOw (env[v]?) && noOwn env vs) := by unfold noOwn; rw [List.all_cons]; congr 1
theorem r_nOwV : nOw (some (.val x)) = true := nrfl rfl
theorem r_nOwU : nOw (some .un) = true := nrfl rfl
theorem r_nOwN : nOw none = true := nrfl rfl
theorem r_wipe0 : wipeE env [] = env := nrfl rfl
theorem r_wipeS {v : Nat} {vs : List Nat} : wipeE env (v :: vs) = (wipeE env vs).set v .un := nrfl rfl
def kLc (gd : GT) (ft : ET) (fe : E) (vs : List Nat) (env : Ev) (o : Option (List Dat × List Int)) : Option (List Dat × List Int) := o.bind fun r => if (decide (r.1.length < 1000000) && noOwn env vs) = true then lcD gd ft fe (wipeE env vs) r.1 r.2 else none
def kLc2 (gd : GT) (ft : ET) (fi1 : EA) (gd1 : GT) (ft1 : ET) (fe : E) (vs vs1 : List Nat) (env : Ev) (o : Option (List Dat × List Int)) : Option (List Dat × List Int) := o.bind fun r => if (decide (r.1.length ≤ 1000) && noOwn env vs) = true then lc2D gd ft fi1 gd1 ft1 fe vs1 (wipeE env vs) r.1 r.2 else none
theorem r_Lc {vs : List Nat} : fLc fi gd ft fe vs env δ = kLc gd ft fe vs env (fi env δ) := nrfl rfl
theorem r_kLc {vs : List Nat} : kLc gd ft fe vs env (some (xs, δ)) = if (decide (xs.length < 1000000) && noOwn env vs) = true then lcD gd ft fe (wipeE env vs) xs δ else none := nrfl rfl
theorem r_Lc2 {vs vs1 : List Nat} {fi1 : EA} {gd1 : GT} {ft1 : ET} : fLc2 fi gd ft fi1 gd1 ft1 fe vs vs1 env δ = kLc2 gd ft fi1 gd1 ft1 fe vs vs1 env (fi env δ) := nrfl rfl
theorem r_kLc2 {vs vs1 : List Nat} {fi1 : EA} {gd1 : GT} {ft1 : ET} : kLc2 gd ft fi1 gd1 ft1 fe vs vs1 env (some (xs, δ)) = if (decide (xs.length ≤ 1000) && noOwn env vs) = true then lc2D gd ft fi1 gd1 ft1 fe vs1 (wipeE env vs) xs δ else none := nrfl rfl
theorem r_yes : eYes env δ = some (true, δ) := nrfl rfl
theorem r_lc0 : lcD gd ft fe env [] δ = some ([], δ) := nrfl rfl
def kPar (i j : Nat) (env : Ev) (o : Option (List Dat × List Int)) : Option Out := o.bind fun r => match r.1 with
  | [x, y] => some (.nx ((env.set i (.val x)).set j (.val y)) r.2)
  | _ => none
def kPar3 (i j l : Nat) (env : Ev) (o : Option (List Dat × List Int)) : Option Out := o.bind fun r => match r.1 with
  | [x, y, z] => some (.nx (((env.set i (.val x)).set j (.val y)).set l (.val z)) r.2)
  | _ => none
def kDrop (env : Ev) (o : Option (Dat × List Int)) : Option Out := o.map fun r => .nx env r.2
def kRevL (o : Option (Dat × List Int)) : Option (Dat × List Int) := o.bind fun r => match r.1 with
  | .lst xs => some (.lst xs.reverse, r.2)
  | _ => none
def kTupOf (o : Option (Dat × List Int)) : Option (Dat × List Int) := o.bind fun r => match r.1 with
  | .lst xs => some (.tup xs, r.2)
  | _ => none
def kTupRg (o : Option (Dat × List Int)) : Option (Dat × List Int) := o.bind fun r => match r.1 with
  | .int n => if smallN n = true then some (.tup (rangeD 0 n), r.2) else none
  | _ => none
def kLstRg (o : Option (Dat × List Int)) : Option (List Dat × List Int) := o.bind fun r => match r.1 with
  | .int n => if smallN n = true then some (rangeD 0 n, r.2) else none
  | _ => none
def kDisp (ks : List Key) (o : Option (List Dat × List Int)) : Option (Dat × List Int) := o.map fun r => (.dK ks r.1, r.2)
def kList (o : Option (List Dat × List Int)) : Option (List Dat × List Int) := o.bind fun r => match r.1 with
  | [.lst xs] => some (xs, r.2)
  | _ => none
theorem r_Par {i j : Nat} : gPar i j fr env δ = kPar i j env (fr env δ) := nrfl rfl
theorem r_kPar {i j : Nat} : kPar i j env (some ([x, y], δ)) = some (.nx ((env.set i (.val x)).set j (.val y)) δ) := nrfl rfl
theorem r_Par3 {i j l : Nat} : gPar3 i j l fr env δ = kPar3 i j l env (fr env δ) := nrfl rfl
theorem r_kPar3 {i j l : Nat} : kPar3 i j l env (some ([x, y, z], δ)) = some (.nx (((env.set i (.val x)).set j (.val y)).set l (.val z)) δ) := nrfl rfl
theorem r_Drop : gDrop f env δ = kDrop env (f env δ) := nrfl rfl
theorem r_kDrop : kDrop env (some (x, δ)) = some (.nx env δ) := nrfl rfl
theorem r_RevL : eRevL f env δ = kRevL (f env δ) := nrfl rfl
theorem r_kRevL : kRevL (some (.lst xs, δ)) = some (.lst xs.reverse, δ) := nrfl rfl
theorem r_TupOf : eTupOf f env δ = kTupOf (f env δ) := nrfl rfl
theorem r_kTupOf : kTupOf (some (.lst xs, δ)) = some (.tup xs, δ) := nrfl rfl
theorem r_TupRg : eTupRg f env δ = kTupRg (f env δ) := nrfl rfl
theorem r_kTupRg {n : Int} : kTupRg (some (.int n, δ)) = if smallN n = true then some (.tup (rangeD 0 n), δ) else none := nrfl rfl
theorem r_LstRg : fLstRg f env δ = kLstRg (f env δ) := nrfl rfl
theorem r_kLstRg {n : Int} : kLstRg (some (.int n, δ)) = if smallN n = true then some (rangeD 0 n, δ) else none := nrfl rfl
theorem r_Disp {ks : List Key} : eDisp ks fr env δ = kDisp ks (fr env δ) := nrfl rfl
theorem r_kDisp {ks : List Key} : kDisp ks (some (xs, δ)) = some (.dK ks xs, δ) := nrfl rfl
theorem r_List : fList fr env δ = kList (fr env δ) := nrfl rfl
theorem r_kList : kList (some ([.lst xs], δ)) = some (xs, δ) := nrfl rfl
def kMeth2 (n : Nat) (G : GF) (o : Dat) (u : Option (List Dat × List Int)) : Option (Dat × List Int) := u.bind fun u => if u.1.length + 1 = n then G (o :: u.1) u.2 else none
def kMeth (c m : Str) (n : Nat) (G : GF) (fr : EA) (env : Ev) (o : Option (Dat × List Int)) : Option (Dat × List Int) := o.bind fun r => match r.1 with
  | .obj c' ks xs => if c' = c ∧ ks.contains m = false then kMeth2 n G (.obj c' ks xs) (fr env r.2) else none
  | _ => none
theorem r_Meth {c1 m1 : Str} : eMeth c1 m1 n G f fr env δ = kMeth c1 m1 n G fr env (f env δ) := nrfl rfl
theorem r_kMeth0 {p0 : Str} : kMeth2 (List.length (α := Str) [p0]) G y (some ([], δ)) = G (y :: []) δ := nrfl rfl
theorem r_kMeth1 {x0 : Dat} {p0 p1 : Str} : kMeth2 (List.length (α := Str) [p0, p1]) G y (some ([x0], δ)) = G (y :: [x0]) δ := nrfl rfl
theorem r_kMeth2 {x0 x1 : Dat} {p0 p1 p2 : Str} : kMeth2 (List.length (α := Str) [p0, p1, p2]) G y (some ([x0, x1], δ)) = G (y :: [x0, x1]) δ := nrfl rfl
theorem r_kMeth3 {x0 x1 x2 : Dat} {p0 p1 p2 p3 : Str} : kMeth2 (List.length (α := Str) [p0, p1, p2, p3]) G y (some ([x0, x1, x2], δ)) = G (y :: [x0, x1, x2]) δ := nrfl rfl
theorem r_neg {n : Int} : dNeg (.int n) = some (.int (-n)) := nrfl rfl
end
end Dl

/-! What defs of the program and of the laws are worth, by data (printed from the text by a tool of mine). -/
namespace Cm
open PySem PySem.Spec L2 Dl
def tbl_MOVES : Str → Option Dat := fun z => if z = "e" then some (.ctup [.int 1, .int 0]) else if z = "n" then some (.ctup [.int 0, .int 1]) else if z = "w" then some (.ctup [.int (-1), .int 0]) else if z = "s" then some (.ctup [.int 0, .int (-1)]) else none
def tbl_BACK : Str → Option Dat := fun z => if z = "e" then some (.str "w") else if z = "n" then some (.str "s") else if z = "w" then some (.str "e") else if z = "s" then some (.str "n") else none
abbrev N_p_corners : List Str := ["corner", "word", "x", "y", "found", "step", "right", "up"]
def b_p_corners_1 : Sg := (gSeq (gAsg (tgTup 2 (tgCons (tgName 6) (tgCons (tgName 7) tgNil))) (eKd tbl_MOVES (eVar 5)))
    (gSeq (gAsg (tgName 2) (eOp dAdd (eVar 2) (eVar 6)))
    (gSeq (gAsg (tgName 3) (eOp dAdd (eVar 3) (eVar 7)))
    (gAppend 4 (eTup (aCons (eVar 2) (aCons (eVar 3) aNil)))))))
def g_p_corners : Sg :=
    (gSeq (gAsg (tgTup 2 (tgCons (tgName 2) (tgCons (tgName 3) tgNil))) (eVar 0))
    (gSeq (gOwn 4 (fLst (aCons (eTup (aCons (eVar 2) (aCons (eVar 3) aNil))) aNil)))
    (gSeq (gFor (iStrD (eVar 1)) (tgName 5) b_p_corners_1)
    (gRetOwn 4))))
def G_p_corners : GF := runG N_p_corners g_p_corners
abbrev N_p_reduced : List Str := ["word", "kept", "step"]
def b_p_reduced_1 : Sg := (gIf (eAndT (eTru (eVarB 1)) (eTest (eOp dEq (eOp dIx (eVarB 1) (eUn dNeg (eC (.int 1)))) (eKd tbl_BACK (eVar 2))))) (gPop 1) (gAppend 1 (eVar 2)))
def g_p_reduced : Sg :=
    (gSeq (gOwn 1 (fLst aNil))
    (gSeq (gFor (iStrD (eVar 0)) (tgName 2) b_p_reduced_1)
    (gRet (eOp dJoin (eC (.str "")) (eVarB 1)))))
def G_p_reduced : GF := runG N_p_reduced g_p_reduced
abbrev N_p_inverse : List Str := ["word", "step"]
def g_p_inverse : Sg :=
    (gRet (eOp dJoin (eC (.str "")) (eF (fLc (iStrD (eRev (eVar 0))) (tgName 1) eYes (eKd tbl_BACK (eVar 1)) [1]))))
def G_p_inverse : GF := runG N_p_inverse g_p_inverse
abbrev N_l_off : List Str := ["_law_d", "_law_most", "_law_found"]
def g_l_off : Sg :=
    (gSeq (gIf (eAndT (eTest (eOp dEq (eDget 0 1) (eC (.int 0)))) (eTest (eOp dGt (eDlen 0) (eC (.int 2))))) (gDset 0 1 (eDpop 0 2)) gNext)
    (gSeq (gIf (eTest (eOp dGt (eDget 0 1) (eC (.int 0)))) (gSeq (gAsg (tgName 2) (eOp dMod (eDget 0 1) (eVar 1)))
    (gSeq (gDset 0 1 (eOp dFdiv (eDget 0 1) (eVar 1)))
    (gRet (eVar 2)))) gNext)
    (gSeq (gDset 0 0 (eOp dMod (eOp dAdd (eOp dMul (eDget 0 0) (eC (.int 48271))) (eC (.int 11))) (eC (.int 2147483647))))
    (gRet (eOp dMod (eOp dFdiv (eDget 0 0) (eC (.int 64))) (eVar 1))))))
def G_l_off : GF := runG N_l_off g_l_off
abbrev N_l_alike : List Str := ["_law_found", "_law_due", "_law_name", "_law_k"]
def g_l_alike (R : GF) : Sg :=
    (gSeq (gIf (eTest (eOp dIsN (eVar 1) (eC .non))) (gRet (eOp dIsN (eVar 0) (eC .non))) gNext)
    (gSeq (gIf (eTru (eIsi "bool" (eVar 1))) (gRet (eAnd (eIsi "bool" (eVar 0)) (eOp dEq (eVar 0) (eVar 1)))) gNext)
    (gSeq (gIf (eTru (eIsi "int" (eVar 1))) (gRet (eAnd (eIsi "int" (eVar 0)) (eAnd (eNot (eIsi "bool" (eVar 0))) (eOp dEq (eVar 0) (eVar 1))))) gNext)
    (gSeq (gIf (eTru (eIsi "str" (eVar 1))) (gRet (eAnd (eIsi "str" (eVar 0)) (eOp dEq (eVar 0) (eVar 1)))) gNext)
    (gSeq (gIf (eTru (eIsi "dict" (eVar 1))) gNever gNext)
    (gSeq (gIf (eOrT (eTest (eOp dNe (eIsi "tuple" (eVar 1)) (eIsi "tuple" (eVar 0)))) (eTest (eOp dNe (eIsi "list" (eVar 1)) (eIsi "list" (eVar 0))))) (gRet (eC (.bl false))) gNext)
    (gSeq (gIf (eTest (eOp dNe (eB dLen (aCons (eVar 0) aNil)) (eB dLen (aCons (eVar 1) aNil)))) (gRet (eC (.bl false))) gNext)
    (gRet (eB dAll (aCons (eF (fLc (iR1 (aCons (eB dLen (aCons (eVar 1) aNil)) aNil)) (tgName 3) eYes (eCall R (["_law_found", "_law_due"] : List Str).length (aCons (eOp dIx (eVar 0) (eVar 3)) (aCons (eOp dIx (eVar 1) (eVar 3)) aNil))) [3])) aNil))))))))))
def G_l_alike : Nat → GF
  | 0 => fun _ _ => none
  | n + 1 => runG N_l_alike (g_l_alike (G_l_alike n))
abbrev N_l_next : List Str := ["_law_corner", "_law_letter", "_law_at"]
def g_l_next : Sg :=
    (gSeq (gAsg (tgName 2) (eOp dIndex (eC (.str "enws")) (eVar 1)))
    (gRet (eTup (aCons (eOp dAdd (eOp dIx (eVar 0) (eC (.int 0))) (eOp dIx (eLst (aCons (eC (.int 1)) (aCons (eC (.int 0)) (aCons (eUn dNeg (eC (.int 1))) (aCons (eC (.int 0)) aNil))))) (eVar 2))) (aCons (eOp dAdd (eOp dIx (eVar 0) (eC (.int 1))) (eOp dIx (eLst (aCons (eC (.int 0)) (aCons (eC (.int 1)) (aCons (eC (.int 0)) (aCons (eUn dNeg (eC (.int 1))) aNil))))) (eVar 2))) aNil)))))
def G_l_next : GF := runG N_l_next g_l_next
abbrev N_l_word : List Str := ["_law_d", "_law_most", "_law_k"]
def g_l_word : Sg :=
    (gRet (eOp dJoin (eC (.str "")) (eF (fLc (iR1 (aCons (eCall G_l_off (["_law_d", "_law_most"] : List Str).length (aCons (eVar 0) (aCons (eOp dAdd (eVar 1) (eC (.int 1))) aNil))) aNil)) (tgName 2) eYes (eOp dIx (eC (.str "enws")) (eCall G_l_off (["_law_d", "_law_most"] : List Str).length (aCons (eVar 0) (aCons (eC (.int 4)) aNil)))) [2]))))
def G_l_word : GF := runG N_l_word g_l_word
abbrev N_l_less : List Str := ["_law_word_here", "_law_k"]
def b_l_less_1 : Sg := (gIf (eTest (eOp dIn (eSl (eVar 0) (oSome (eVar 1)) (oSome (eOp dAdd (eVar 1) (eC (.int 2))))) (eTup (aCons (eC (.str "ew")) (aCons (eC (.str "we")) (aCons (eC (.str "ns")) (aCons (eC (.str "sn")) aNil))))))) (gRet (eOp dAdd (eSl (eVar 0) oNone (oSome (eVar 1))) (eSl (eVar 0) (oSome (eOp dAdd (eVar 1) (eC (.int 2)))) oNone))) gNext)
def g_l_less : Sg :=
    (gSeq (gFor (iR1 (aCons (eOp dSub (eB dLen (aCons (eVar 0) aNil)) (eC (.int 1))) aNil)) (tgName 1) b_l_less_1)
    (gRet (eVar 0)))
def G_l_less : GF := runG N_l_less g_l_less
end Cm

namespace Cm
open PySem PySem.Spec L2 Dl
/-! ### The dice's numbers -/
local macro_rules | `(tactic| walk_at "num") => `(tactic| first
  | exact dAdd_i | exact dSub_i | exact dLt_i | exact dLe_i | exact dGt_i | exact dGe_i | exact dEq_i | exact dNe_i
  | exact dMul_r (by decide) (by decide) | exact dMod_i (by first | decide | assumption | omega) | exact dFdiv_i (by first | decide | assumption | omega) (by first | decide | assumption | omega))
local macro_rules | `(tactic| walk_at "go") => `(tactic| repeat' (first
  | exact eVar_s rfl | exact eVarB_v rfl | exact eVarB_o rfl | exact eC_s | exact aNil_s | exact gNext_s | exact oNone_s | exact eYes_s
  | walk_at "num"
  | apply eOp_s | apply eUn_s _ rfl | apply eTest_s | apply aCons_s | apply eTup_s _ (by decide) | apply eLst_s _ (by decide) | apply fLst_s _ (by decide)
  | exact eDget_s rfl (atI_nat' (j := 0) rfl rfl) | exact eDget_s rfl (atI_nat' (j := 1) rfl rfl) | exact eDlen_s rfl | exact eDpop_s rfl rfl
  | apply gAsg_s _ rfl | apply gDset_s | exact ixN_lt (j := 0) rfl (by simp) | exact ixN_lt (j := 1) rfl (by simp) | exact (rfl : (_ : Option Slot) = _) | apply gRet_s | apply gOwn_s))
/-- one number below m -/
def offM (m : Int) : List Int → Int × List Int
  | a :: b :: r =>
    let b' := if b = 0 then (match r with | [] => b | c :: _ => c) else b
    let r' := if b = 0 then r.tail else r
    if 0 < b' then (b' % m, a :: b' / m :: r') else ((a * 48271 + 11) % 2147483647 / 64 % m, (a * 48271 + 11) % 2147483647 :: b' :: r')
  | δ => (0, δ)
theorem off_tail {m a b : Int} {r : List Int} (hm : 0 < m) (hm2 : m < 1073741824) :
    (gSeq (gIf (eTest (eOp dGt (eDget 0 1) (eC (.int 0)))) (gSeq (gAsg (tgName 2) (eOp dMod (eDget 0 1) (eVar 1)))
    (gSeq (gDset 0 1 (eOp dFdiv (eDget 0 1) (eVar 1)))
    (gRet (eVar 2)))) gNext)
    (gSeq (gDset 0 0 (eOp dMod (eOp dAdd (eOp dMul (eDget 0 0) (eC (.int 48271))) (eC (.int 11))) (eC (.int 2147483647))))
    (gRet (eOp dMod (eOp dFdiv (eDget 0 0) (eC (.int 64))) (eVar 1))))) [.val .dice, .val (.int m), .un] (a :: b :: r) =
    some (if 0 < b then .rt (.int (b % m)) (a :: b / m :: r) else .rt (.int ((a * 48271 + 11) % 2147483647 / 64 % m)) ((a * 48271 + 11) % 2147483647 :: b :: r)) := by
  by_cases hb : 0 < b
  · rw [if_pos hb]
    apply gSeq_r
    apply gIf_t
    · apply eTest_s
      rw [show true = decide (0 < b) from (decide_eq_true hb).symm]
      walk_at "go"
    · apply gSeq_n
      · walk_at "go"
      · apply gSeq_n
        · walk_at "go"
        · walk_at "go"
  · rw [if_neg hb]
    apply gSeq_n
    · apply gIf_f
      · apply eTest_s
        rw [show false = decide (0 < b) from (decide_eq_false hb).symm]
        walk_at "go"
      · exact gNext_s
    · apply gSeq_n
      · walk_at "go"
      · walk_at "go"
theorem off_eq {m : Int} {δ : List Int} (hm : 0 < m) (hm2 : m < 1073741824) (hd : 2 ≤ δ.length) : G_l_off [.dice, .int m] δ = some (.int (offM m δ).1, (offM m δ).2) := by
  match δ, hd with
  | a :: b :: r, _ =>
    refine runG_r ?_
    show g_l_off [.val .dice, .val (.int m), .un] (a :: b :: r) = _
    unfold g_l_off
    by_cases hb : b = 0
    · subst hb
      have e0 : eTest (eOp dEq (eDget 0 1) (eC (.int 0))) [.val .dice, .val (.int m), .un] (a :: 0 :: r) = some (true, a :: 0 :: r) := by
        apply eTest_s
        rw [show true = decide ((0 : Int) = 0) from rfl]
        walk_at "go"
      cases r with
      | nil =>
        apply gSeq_n
        · apply gIf_f
          · apply eAndT_t e0
            apply eTest_s
            rw [show false = decide ((2 : Int) < (([a, 0] : List Int).length : Nat)) from rfl]
            walk_at "go"
          · exact gNext_s
        · rw [off_tail hm hm2]
          rfl
      | cons c r =>
        apply gSeq_n
        · apply gIf_t
          · apply eAndT_t e0
            apply eTest_s
            rw [show true = decide ((2 : Int) < ((a :: 0 :: c :: r : List Int).length : Nat)) from (decide_eq_true (by simp only [List.length_cons]; omega)).symm]
            walk_at "go"
          · exact gDset_s (j := 1) (eDpop_s rfl rfl) rfl (ixN_lt rfl (by simp))
        · show gSeq _ _ [.val .dice, .val (.int m), .un] (a :: c :: r) = _
          rw [off_tail hm hm2]
          show _ = some (Out.rt (.int (offM m (a :: 0 :: c :: r)).1) (offM m (a :: 0 :: c :: r)).2)
          unfold offM
          simp only [if_true, List.tail_cons]
          split <;> rfl
    · have e0 : eTest (eOp dEq (eDget 0 1) (eC (.int 0))) [.val .dice, .val (.int m), .un] (a :: b :: r) = some (false, a :: b :: r) := by
        apply eTest_s
        rw [show false = decide (b = 0) from (decide_eq_false hb).symm]
        walk_at "go"
      apply gSeq_n
      · exact gIf_f (eAndT_f e0) gNext_s
      · rw [off_tail hm hm2]
        show _ = some (Out.rt (.int (offM m (a :: b :: r)).1) (offM m (a :: b :: r)).2)
        unfold offM
        simp only [hb, if_false]
        split <;> rfl
theorem offM_form (m a b : Int) (r : List Int) : ∃ b' r', offM m (a :: b :: r) = if 0 < b' then (b' % m, a :: b' / m :: r') else ((a * 48271 + 11) % 2147483647 / 64 % m, (a * 48271 + 11) % 2147483647 :: b' :: r') :=
  ⟨_, _, rfl⟩
theorem off_len {m : Int} {δ : List Int} (hd : 2 ≤ δ.length) : 2 ≤ (offM m δ).2.length := by
  match δ, hd with
  | a :: b :: r, _ =>
    obtain ⟨b', r', e⟩ := offM_form m a b r
    rw [e]
    by_cases h : 0 < b' <;> simp [h]
theorem off_nn {m : Int} {δ : List Int} (hm : 0 < m) : 0 ≤ (offM m δ).1 ∧ (offM m δ).1 < m := by
  match δ with
  | [] => exact ⟨Int.le_refl _, hm⟩
  | [_] => exact ⟨Int.le_refl _, hm⟩
  | a :: b :: r =>
    obtain ⟨b', r', e⟩ := offM_form m a b r
    rw [e]
    by_cases h : 0 < b'
    · rw [if_pos h]
      exact ⟨Int.emod_nonneg _ (by omega), Int.emod_lt_of_pos _ hm⟩
    · rw [if_neg h]
      exact ⟨Int.emod_nonneg _ (by omega), Int.emod_lt_of_pos _ hm⟩
end Cm

namespace Cm
open PySem PySem.Spec L2 Dl
/-! ### Letters, words, corners -/
/-- a step's letter -/
def L4 (c : Nat) : Prop := c = 101 ∨ c = 110 ∨ c = 119 ∨ c = 115
theorem L4.lt {c : Nat} (h : L4 c) : c < 128 := by rcases h with rfl | rfl | rfl | rfl <;> decide
theorem enws_S : ("enws" : Str) = S [101, 110, 119, 115] := by decide +kernel
theorem wsen_S : ("wsen" : Str) = S [119, 115, 101, 110] := by decide +kernel
theorem empty_S : ("" : Str) = S [] := by decide +kernel
theorem e_S : ("e" : Str) = S [101] := by decide +kernel
theorem n_S : ("n" : Str) = S [110] := by decide +kernel
theorem w_S : ("w" : Str) = S [119] := by decide +kernel
theorem s_S : ("s" : Str) = S [115] := by decide +kernel
/-- the letter of a number -/
def lt4 (i : Int) : Nat := if i = 0 then 101 else if i = 1 then 110 else if i = 2 then 119 else 115
theorem lt4_ok (i : Int) : L4 (lt4 i) := by
  unfold lt4 L4
  split
  · exact .inl rfl
  · split
    · exact .inr (.inl rfl)
    · split
      · exact .inr (.inr (.inl rfl))
      · exact .inr (.inr (.inr rfl))
theorem ix_enws {i : Int} (h0 : 0 ≤ i) (h4 : i < 4) : dIx (.str "enws") (.int i) = some (.str (S [lt4 i])) := by
  have : i = 0 ∨ i = 1 ∨ i = 2 ∨ i = 3 := by omega
  rw [enws_S]
  rcases this with rfl | rfl | rfl | rfl <;> rfl
/-- the number of a letter -/
def ni (c : Nat) : Int := if c = 101 then 0 else if c = 110 then 1 else if c = 119 then 2 else 3
theorem index_enws {c : Nat} (h : L4 c) : dIndex (.str "enws") (.str (S [c])) = some (.int (ni c)) := by
  have h1 : Txt.index0 ("enws" : Str) (S [101]) = some 0 := by decide +kernel
  have h2 : Txt.index0 ("enws" : Str) (S [110]) = some 1 := by decide +kernel
  have h3 : Txt.index0 ("enws" : Str) (S [119]) = some 2 := by decide +kernel
  have h4 : Txt.index0 ("enws" : Str) (S [115]) = some 3 := by decide +kernel
  rcases h with rfl | rfl | rfl | rfl
  · show (Txt.index0 ("enws" : Str) (S [101])).map _ = _
    rw [h1]; rfl
  · show (Txt.index0 ("enws" : Str) (S [110])).map _ = _
    rw [h2]; rfl
  · show (Txt.index0 ("enws" : Str) (S [119])).map _ = _
    rw [h3]; rfl
  · show (Txt.index0 ("enws" : Str) (S [115])).map _ = _
    rw [h4]; rfl
/-- a step -/
def mv (c : Nat) : Int × Int := if c = 101 then (1, 0) else if c = 110 then (0, 1) else if c = 119 then (-1, 0) else (0, -1)
def go1 (p : Int × Int) (c : Nat) : Int × Int := (p.1 + (mv c).1, p.2 + (mv c).2)
theorem next_eq {p : Int × Int} {c : Nat} {δ : List Int} (h : L4 c) : G_l_next [pD p, .str (S [c])] δ = some (pD (go1 p c), δ) := by
  refine runG_r ?_
  show g_l_next [.val (pD p), .val (.str (S [c])), .un] δ = _
  unfold g_l_next
  apply gSeq_n
  · apply gAsg_s
    · apply eOp_s
      · exact eC_s
      · exact eVar_s rfl
      · exact index_enws h
    · exact rfl
  · rcases h with rfl | rfl | rfl | rfl <;> exact rfl
/-- the letters that are drawn -/
def draws (m : Int) : Nat → List Int → List Int × List Int
  | 0, δ => ([], δ)
  | k + 1, δ => ((offM m δ).1 :: (draws m k (offM m δ).2).1, (draws m k (offM m δ).2).2)
theorem draws_len (m : Int) : ∀ (k : Nat) (δ : List Int), (draws m k δ).1.length = k
  | 0, _ => rfl
  | k + 1, δ => by simp [draws, draws_len m k]
theorem draws_d2 (m : Int) : ∀ (k : Nat) (δ : List Int), 2 ≤ δ.length → 2 ≤ (draws m k δ).2.length
  | 0, _, h => h
  | k + 1, δ, h => by simp only [draws]; exact draws_d2 m k _ (off_len h)
theorem draws_bd {m : Int} (hm : 0 < m) : ∀ (k : Nat) (δ : List Int), ∀ z ∈ (draws m k δ).1, 0 ≤ z ∧ z < m
  | 0, _, z, h => by cases h
  | k + 1, δ, z, h => by
    simp only [draws, List.mem_cons] at h
    rcases h with rfl | h
    · exact off_nn hm
    · exact draws_bd hm k _ z h
def wordM (most : Int) (δ : List Int) : List Nat × List Int :=
  (((draws 4 (offM (most + 1) δ).1.toNat (offM (most + 1) δ).2).1).map lt4, (draws 4 (offM (most + 1) δ).1.toNat (offM (most + 1) δ).2).2)
theorem word_L4 {most : Int} {δ : List Int} : ∀ c ∈ (wordM most δ).1, L4 c := by
  intro c h
  obtain ⟨z, _, rfl⟩ := List.mem_map.mp h
  exact lt4_ok z
theorem word_d2 {most : Int} {δ : List Int} (h : 2 ≤ δ.length) : 2 ≤ (wordM most δ).2.length := draws_d2 _ _ _ (off_len h)
theorem word_len {most : Int} {δ : List Int} (h : 0 ≤ most) : ((wordM most δ).1.length : Int) ≤ most := by
  unfold wordM
  rw [List.length_map, draws_len]
  have := off_nn (m := most + 1) (δ := δ) (by omega)
  omega
theorem call_off {i : Nat} {env : Ev} {f : E} {δ δ1 : List Int} {m : Int} (h0 : env[i]? = some (.val .dice)) (h1 : f env δ = some (.int m, δ1)) (hm : 0 < m) (hm2 : m < 1073741824) (hd : 2 ≤ δ1.length) :
    eCall G_l_off (["_law_d", "_law_most"] : List Str).length (aCons (eVar i) (aCons f aNil)) env δ = some (.int (offM m δ1).1, (offM m δ1).2) :=
  eCall_s (aCons_s (eVar_s h0) (aCons_s h1 aNil_s)) rfl (off_eq hm hm2 hd)
theorem word_lc (a b : Dl.Slot) (i4 : List Int) : ∀ (k j : Nat) (δ : List Int), 2 ≤ δ.length →
    lcD (tgName 2) eYes (eOp dIx (eC (.str "enws")) (eCall G_l_off (["_law_d", "_law_most"] : List Str).length (aCons (eVar 0) (aCons (eC (.int 4)) aNil)))) [.val .dice, b, .un] ((List.range' j k).map fun i => .int (0 + ((i : Nat) : Int))) δ =
      some (((draws 4 k δ).1.map lt4).map fun c => .str (S [c]), (draws 4 k δ).2)
  | 0, _, _, _ => rfl
  | k + 1, j, δ, hd => by
    rw [List.range'_succ, List.map_cons]
    apply lc_t
    · exact rfl
    · exact eYes_s
    · apply eOp_s
      · exact eC_s
      · exact call_off rfl eC_s (by decide) (by decide) hd
      · exact ix_enws (off_nn (by decide)).1 (off_nn (by decide)).2
    · exact word_lc a b i4 k (j + 1) _ (off_len hd)
theorem flat1 (l : List Nat) : (l.map fun c => [c]).flatten = l := by
  induction l with
  | nil => rfl
  | cons c l ih => simp [ih]
theorem word_eq {most : Int} {δ : List Int} (h0 : 0 ≤ most) (h1 : most < 1000) (hd : 2 ≤ δ.length) : G_l_word [.dice, .int most] δ = some (.str (S (wordM most δ).1), (wordM most δ).2) := by
  refine runG_r ?_
  show g_l_word [.val .dice, .val (.int most), .un] δ = _
  unfold g_l_word
  have hb := off_nn (m := most + 1) (δ := δ) (by omega)
  have hL : ((draws 4 (offM (most + 1) δ).1.toNat (offM (most + 1) δ).2).1.map lt4).length < 1000 := by
    rw [List.length_map, draws_len]
    omega
  apply gRet_s
  apply eOp_s
  · exact eC_s
  · apply eF_s
    apply fLc_s
    · apply iR1_s
      · apply aCons_s
        · exact call_off rfl (eOp_s (eVar_s rfl) eC_s dAdd_i) (by omega) (by omega) hd
        · exact aNil_s
      · unfold bnd
        simp only [Bool.and_eq_true, decide_eq_true_eq]
        omega
    · unfold rangeD
      rw [List.length_map, List.length_range]
      omega
    · rfl
    · have := word_lc .un (.val (.int most)) [] (offM (most + 1) δ).1.toNat 0 (offM (most + 1) δ).2 (off_len hd)
      rw [← List.range_eq_range'] at this
      unfold rangeD
      rw [Int.sub_zero]
      exact this
  · have := dJoin_S (ws := (((draws 4 (offM (most + 1) δ).1.toNat (offM (most + 1) δ).2).1.map lt4).map fun c => [c])) (by rw [flat1]; omega)
    rw [flat1, List.map_map, ← empty_S] at this
    exact this
/-! ### corners -/
def pathM (p : Int × Int) : List Nat → List (Int × Int)
  | [] => []
  | c :: w => go1 p c :: pathM (go1 p c) w
theorem path_len : ∀ (w : List Nat) (p : Int × Int), (pathM p w).length = w.length
  | [], _ => rfl
  | c :: w, p => by simp [pathM, path_len w]
def endM (p : Int × Int) (w : List Nat) : Int × Int := w.foldl go1 p
theorem path_last : ∀ (w : List Nat) (p : Int × Int), (p :: pathM p w).getLast? = some (endM p w)
  | [], p => rfl
  | c :: w, p => by
    rw [pathM, List.getLast?_cons_cons]
    exact path_last w (go1 p c)
theorem moves_eq {c : Nat} (h : L4 c) : tbl_MOVES (S [c]) = some (.ctup [.int (mv c).1, .int (mv c).2]) := by
  unfold tbl_MOVES
  rw [e_S, n_S, w_S, s_S]
  rcases h with rfl | rfl | rfl | rfl <;> simp [S_inj, mv]
theorem corners_for (a0 a1 : Dl.Slot) : ∀ (w : List Nat) (hw : ∀ c ∈ w, L4 c) (p : Int × Int) (acc : List (Int × Int)) (s5 s6 s7 : Dl.Slot) (δ : List Int), acc.length + w.length < 1000000 →
    ∃ (s5' s6' s7' : Dl.Slot) (q : Int × Int), forD (tgName 5) b_p_corners_1 (w.map fun c => .str (S [c])) [a0, a1, .val (.int p.1), .val (.int p.2), .own (.lst, (acc.map pD)), s5, s6, s7] δ =
      some (.nx [a0, a1, .val (.int q.1), .val (.int q.2), .own (.lst, ((acc ++ pathM p w).map pD)), s5', s6', s7'] δ)
  | [], _, p, acc, s5, s6, s7, δ, _ => ⟨s5, s6, s7, p, by simp [pathM, forD]⟩
  | c :: w, hw, p, acc, s5, s6, s7, δ, hl => by
    obtain ⟨t5, t6, t7, q, e⟩ := corners_for a0 a1 w (fun d hd => hw d (List.mem_cons_of_mem _ hd)) (go1 p c) (acc ++ [go1 p c]) (.val (.str (S [c]))) (.val (.int (mv c).1)) (.val (.int (mv c).2)) δ (by simp at hl ⊢; omega)
    refine ⟨t5, t6, t7, q, ?_⟩
    rw [List.map_cons]
    apply forD_n
    · exact rfl
    · unfold b_p_corners_1
      apply gSeq_n
      · apply gAsg_s
        · exact eKd_s (eVar_s rfl) (moves_eq (hw c List.mem_cons_self))
        · exact rfl
      · apply gSeq_n
        · exact gAsg_s (eOp_s (eVar_s rfl) (eVar_s rfl) dAdd_i) rfl
        · apply gSeq_n
          · exact gAsg_s (eOp_s (eVar_s rfl) (eVar_s rfl) dAdd_i) rfl
          · apply gAppend_s
            · exact eTup_s (aCons_s (eVar_s rfl) (aCons_s (eVar_s rfl) aNil_s)) (by simp)
            · exact rfl
            · rw [List.length_map]; simp at hl; omega
    · have : (acc ++ [go1 p c]).map pD = acc.map pD ++ [pD (go1 p c)] := by simp
      rw [this] at e
      have e2 : acc ++ pathM p (c :: w) = acc ++ [go1 p c] ++ pathM (go1 p c) w := by simp [pathM]
      rw [e2]
      exact e
theorem iter_S (w : List Nat) : ((S w).cps.toList.map fun c => (Dat.str ⟨#[c]⟩)) = w.map fun c => .str (S [c]) := rfl
theorem corners_eq {p : Int × Int} {w : List Nat} {δ : List Int} (hw : ∀ c ∈ w, L4 c) (hl : w.length < 100000) : G_p_corners [pD p, .str (S w)] δ = some (.lst ((p :: pathM p w).map pD), δ) := by
  refine runG_r ?_
  show g_p_corners [.val (pD p), .val (.str (S w)), .un, .un, .un, .un, .un, .un] δ = _
  unfold g_p_corners
  obtain ⟨t5, t6, t7, q, e⟩ := corners_for (.val (pD p)) (.val (.str (S w))) w hw p [p] .un .un .un δ (by simp; omega)
  apply gSeq_n
  · exact gAsg_s (eVar_s rfl) rfl
  · apply gSeq_n
    · exact gOwn_s (fLst_s (aCons_s (eTup_s (aCons_s (eVar_s rfl) (aCons_s (eVar_s rfl) aNil_s)) (by simp)) aNil_s) (by simp))
    · apply gSeq_n
      · apply gFor_s
        · exact iStrD_s (eVar_s rfl)
        · exact e
      · exact gRetOwn_s rfl
end Cm

namespace Cm
open PySem PySem.Spec L2 Dl
/-! ### reduced, inverse -/
def backM (c : Nat) : Nat := if c = 101 then 119 else if c = 110 then 115 else if c = 119 then 101 else 110
theorem back_L4 {c : Nat} (h : L4 c) : L4 (backM c) := by rcases h with rfl | rfl | rfl | rfl <;> (unfold L4 backM; decide)
theorem back_back {c : Nat} (h : L4 c) : backM (backM c) = c := by rcases h with rfl | rfl | rfl | rfl <;> rfl
theorem back_eq {c : Nat} (h : L4 c) : tbl_BACK (S [c]) = some (.str (S [backM c])) := by
  unfold tbl_BACK
  rw [e_S, n_S, w_S, s_S]
  rcases h with rfl | rfl | rfl | rfl <;> simp [S_inj, backM]
abbrev ltr (c : Nat) : Dat := .str (S [c])
def push (st : List Nat) (c : Nat) : List Nat := match st with
  | t :: r => if t = backM c then r else c :: t :: r
  | [] => [c]
def redR (st w : List Nat) : List Nat := w.foldl push st
def redM (w : List Nat) : List Nat := (redR [] w).reverse
theorem push_L4 {st : List Nat} {c : Nat} (hs : ∀ d ∈ st, L4 d) (hc : L4 c) : ∀ d ∈ push st c, L4 d := by
  intro d hd
  unfold push at hd
  split at hd
  · rename_i t r
    split at hd
    · exact hs d (List.mem_cons_of_mem _ hd)
    · rcases List.mem_cons.mp hd with rfl | h
      · exact hc
      · exact hs d h
  · simp at hd; rw [hd]; exact hc
theorem redR_L4 : ∀ (w : List Nat) (st : List Nat), (∀ d ∈ st, L4 d) → (∀ d ∈ w, L4 d) → ∀ d ∈ redR st w, L4 d
  | [], st, hs, _ => hs
  | c :: w, st, hs, hw => redR_L4 w (push st c) (push_L4 hs (hw c List.mem_cons_self)) fun d hd => hw d (List.mem_cons_of_mem _ hd)
theorem push_len (st : List Nat) (c : Nat) : (push st c).length ≤ st.length + 1 := by
  unfold push
  split
  · split
    · simp; omega
    · simp
  · simp
theorem redR_len : ∀ (w st : List Nat), (redR st w).length ≤ st.length + w.length
  | [], st => by simp [redR]
  | c :: w, st => by
    have h1 := redR_len w (push st c)
    have h2 := push_len st c
    show (redR (push st c) w).length ≤ _
    simp only [List.length_cons]
    omega
theorem last_map (t : Nat) (r : List Nat) : (((t :: r).reverse).map ltr).getLast? = some (ltr t) := by simp
theorem reduced_for (a0 : Dl.Slot) : ∀ (w : List Nat) (hw : ∀ c ∈ w, L4 c) (st : List Nat) (hs : ∀ c ∈ st, L4 c) (s2 : Dl.Slot) (δ : List Int), st.length + w.length < 1000000 →
    ∃ (s2' : Dl.Slot), forD (tgName 2) b_p_reduced_1 (w.map ltr) [a0, .own (.lst, (st.reverse.map ltr)), s2] δ = some (.nx [a0, .own (.lst, ((redR st w).reverse.map ltr)), s2'] δ)
  | [], _, st, _, s2, δ, _ => ⟨s2, rfl⟩
  | c :: w, hw, st, hs, s2, δ, hl => by
    have hc := hw c List.mem_cons_self
    obtain ⟨s2', e⟩ := reduced_for a0 w (fun d hd => hw d (List.mem_cons_of_mem _ hd)) (push st c) (push_L4 hs hc) (.val (ltr c)) δ (by have := push_len st c; simp at hl ⊢; omega)
    refine ⟨s2', ?_⟩
    rw [List.map_cons]
    apply forD_n
    · exact rfl
    · show b_p_reduced_1 [a0, .own (.lst, (st.reverse.map ltr)), .val (ltr c)] δ = some (.nx [a0, .own (.lst, ((push st c).reverse.map ltr)), .val (ltr c)] δ)
      unfold b_p_reduced_1
      cases st with
      | nil =>
        apply gIf_f
        · exact eAndT_f (eTru_s (eVarB_o rfl) rfl)
        · exact gAppend_s (l := []) (x := ltr c) (eVar_s rfl) rfl (by decide)
      | cons t r =>
        have ht : truD (.lst (((t :: r).reverse).map ltr)) = some true := by
          show some (!(((t :: r).reverse).map ltr).isEmpty) = some true
          simp
        have hx : eOp dEq (eOp dIx (eVarB 1) (eUn dNeg (eC (.int 1)))) (eKd tbl_BACK (eVar 2)) [a0, .own (.lst, ((t :: r).reverse.map ltr)), .val (ltr c)] δ = some (.bl (decide (t = backM c)), δ) := by
          apply eOp_s
          · apply eOp_s
            · exact eVarB_o rfl
            · exact eUn_s eC_s rfl
            · exact atI_neg1 (last_map t r)
          · exact eKd_s (eVar_s rfl) (back_eq hc)
          · have := dEq_S (v := [t]) (w := [backM c]) (by intro d hd; simp at hd; rw [hd]; exact (hs t List.mem_cons_self).lt) (by intro d hd; simp at hd; rw [hd]; exact (back_L4 hc).lt)
            rw [this]
            simp
        by_cases h : t = backM c
        · have e1 : push (t :: r) c = r := by unfold push; exact if_pos h
          rw [e1]
          apply gIf_t
          · exact eAndT_t (eTru_s (eVarB_o rfl) ht) (eTest_s (by rw [hx, decide_eq_true h]))
          · refine (gPop_s rfl (by simp)).trans ?_
            simp
        · have e1 : push (t :: r) c = c :: t :: r := by unfold push; exact if_neg h
          rw [e1]
          apply gIf_f
          · exact eAndT_t (eTru_s (eVarB_o rfl) ht) (eTest_s (by rw [hx, decide_eq_false h]))
          · refine (gAppend_s (eVar_s rfl) rfl (by simp at hl ⊢; omega)).trans ?_
            simp
    · exact e
theorem S_ltrs (w : List Nat) (h : w.length < 1000000) : dJoin (.str "") (.lst (w.map ltr)) = some (.str (S w)) := by
  have := dJoin_S (ws := w.map fun c => [c]) (by rw [flat1]; exact h)
  rw [flat1, List.map_map, ← empty_S] at this
  exact this
theorem reduced_eq {w : List Nat} {δ : List Int} (hw : ∀ c ∈ w, L4 c) (hl : w.length < 100000) : G_p_reduced [.str (S w)] δ = some (.str (S (redM w)), δ) := by
  refine runG_r ?_
  show g_p_reduced [.val (.str (S w)), .un, .un] δ = _
  unfold g_p_reduced
  obtain ⟨s2, e⟩ := reduced_for (.val (.str (S w))) w hw [] (by simp) .un δ (by simp; omega)
  apply gSeq_n
  · exact gOwn_s (fLst_s aNil_s (by simp))
  · apply gSeq_n
    · apply gFor_s
      · exact iStrD_s (eVar_s rfl)
      · exact e
    · apply gRet_s
      apply eOp_s
      · exact eC_s
      · exact eVarB_o rfl
      · refine S_ltrs _ ?_
        have := redR_len w []
        rw [List.length_reverse]
        simp at this
        omega
def invM (w : List Nat) : List Nat := w.reverse.map backM
theorem inverse_lc (a0 : Dl.Slot) {δ : List Int} : ∀ (w : List Nat), (∀ c ∈ w, L4 c) → lcD (tgName 1) eYes (eKd tbl_BACK (eVar 1)) [a0, .un] (w.map ltr) δ = some ((w.map backM).map ltr, δ)
  | [], _ => rfl
  | c :: w, hw => by
    rw [List.map_cons]
    exact lc_t rfl eYes_s (eKd_s (eVar_s rfl) (back_eq (hw c List.mem_cons_self))) (inverse_lc a0 w fun d hd => hw d (List.mem_cons_of_mem _ hd))
theorem inverse_eq {w : List Nat} {δ : List Int} (hw : ∀ c ∈ w, L4 c) (hl : w.length < 100000) : G_p_inverse [.str (S w)] δ = some (.str (S (invM w)), δ) := by
  refine runG_r ?_
  show g_p_inverse [.val (.str (S w)), .un] δ = _
  unfold g_p_inverse
  apply gRet_s
  apply eOp_s
  · exact eC_s
  · apply eF_s
    apply fLc_s
    · exact iStrD_s (eRev_s (eVar_s rfl) (by rw [S_len]; omega))
    · rw [S_rev, S_cps]; simp; omega
    · rfl
    · exact inverse_lc (.val (.str (S w))) w.reverse (fun c hc => hw c (by simpa using hc))
  · exact S_ltrs _ (by simp; omega)
/-! ### alike -/
theorem k_sb : kitB "str" "bool" = some false := by decide +kernel
theorem k_si : kitB "str" "int" = some false := by decide +kernel
theorem k_ss : kitB "str" "str" = some true := by decide +kernel
theorem k_ib : kitB "int" "bool" = some false := by decide +kernel
theorem k_ii : kitB "int" "int" = some true := by decide +kernel
theorem k_bb : kitB "bool" "bool" = some true := by decide +kernel
theorem k_tb : kitB "tuple" "bool" = some false := by decide +kernel
theorem k_ti : kitB "tuple" "int" = some false := by decide +kernel
theorem k_ts : kitB "tuple" "str" = some false := by decide +kernel
theorem k_td : kitB "tuple" "dict" = some false := by decide +kernel
theorem k_tt : kitB "tuple" "tuple" = some true := by decide +kernel
theorem k_tl : kitB "tuple" "list" = some false := by decide +kernel
theorem k_lb : kitB "list" "bool" = some false := by decide +kernel
theorem k_li : kitB "list" "int" = some false := by decide +kernel
theorem k_ls : kitB "list" "str" = some false := by decide +kernel
theorem k_ld : kitB "list" "dict" = some false := by decide +kernel
theorem k_lt : kitB "list" "tuple" = some false := by decide +kernel
theorem k_ll : kitB "list" "list" = some true := by decide +kernel
section
variable {n : Nat} {δ : List Int} {R : GF}
theorem isi_s {i : Nat} {env : Ev} {T m : String} {x : Dat} {k : Bool} (h : env[i]? = some (.val x)) (h1 : tyN x = some m) (h2 : kitB m T = some k) : eTru (eIsi T (eVar i)) env δ = some (k, δ) := eTru_s (eIsi_s (eVar_s h) h1 h2) rfl
theorem isiE_s {i : Nat} {env : Ev} {T m : String} {x : Dat} {k : Bool} (h : env[i]? = some (.val x)) (h1 : tyN x = some m) (h2 : kitB m T = some k) : eIsi T (eVar i) env δ = some (.bl k, δ) := eIsi_s (eVar_s h) h1 h2
theorem alike_str {v w : List Nat} (hv : ∀ c ∈ v, c < 128) (hw : ∀ c ∈ w, c < 128) : G_l_alike (n + 1) [.str (S v), .str (S w)] δ = some (.bl (decide (v = w)), δ) := by
  refine runG_r ?_
  show g_l_alike (G_l_alike n) [.val (.str (S v)), .val (.str (S w)), .un, .un] δ = _
  unfold g_l_alike
  apply gSeq_n
  · exact gIf_f (eTest_s (eOp_s (eVar_s rfl) eC_s rfl)) gNext_s
  · apply gSeq_n
    · exact gIf_f (isi_s rfl rfl k_sb) gNext_s
    · apply gSeq_n
      · exact gIf_f (isi_s rfl rfl k_si) gNext_s
      · apply gSeq_r
        exact gIf_t (isi_s rfl rfl k_ss) (gRet_s (eAnd_t (isiE_s rfl rfl k_ss) (eOp_s (eVar_s rfl) (eVar_s rfl) (dEq_S hv hw))))
theorem alike_int {i j : Int} : G_l_alike (n + 1) [.int i, .int j] δ = some (.bl (decide (i = j)), δ) := by
  refine runG_r ?_
  show g_l_alike (G_l_alike n) [.val (.int i), .val (.int j), .un, .un] δ = _
  unfold g_l_alike
  apply gSeq_n
  · exact gIf_f (eTest_s (eOp_s (eVar_s rfl) eC_s rfl)) gNext_s
  · apply gSeq_n
    · exact gIf_f (isi_s rfl rfl k_ib) gNext_s
    · apply gSeq_r
      exact gIf_t (isi_s rfl rfl k_ii) (gRet_s (eAnd_t (isiE_s rfl rfl k_ii) (eAnd_t (eNot_s (isiE_s rfl rfl k_ib)) (eOp_s (eVar_s rfl) (eVar_s rfl) dEq_i))))
theorem alike_bl {i j : Bool} : G_l_alike (n + 1) [.bl i, .bl j] δ = some (.bl (decide (i = j)), δ) := by
  refine runG_r ?_
  show g_l_alike (G_l_alike n) [.val (.bl i), .val (.bl j), .un, .un] δ = _
  unfold g_l_alike
  apply gSeq_n
  · exact gIf_f (eTest_s (eOp_s (eVar_s rfl) eC_s rfl)) gNext_s
  · apply gSeq_r
    exact gIf_t (isi_s rfl rfl k_bb) (gRet_s (eAnd_t (isiE_s rfl rfl k_bb) (eOp_s (eVar_s rfl) (eVar_s rfl) (by cases i <;> cases j <;> rfl))))
/-- the items, one by one -/
theorem alike_lc {xs ys : List Dat} {ks : List Bool} {X Y : Dat} {a3 : Dl.Slot} (hX : ∀ (j : Nat) x, xs[j]? = some x → dIx X (.int (j : Int)) = some x) (hY : ∀ (j : Nat) x, ys[j]? = some x → dIx Y (.int (j : Int)) = some x) :
    ∀ (m j : Nat), j + m = ks.length → xs.length = ks.length → ys.length = ks.length → (∀ (i : Nat) x y k, xs[i]? = some x → ys[i]? = some y → ks[i]? = some k → R [x, y] δ = some (.bl k, δ)) →
    lcD (tgName 3) eYes (eCall R (["_law_found", "_law_due"] : List Str).length (aCons (eOp dIx (eVar 0) (eVar 3)) (aCons (eOp dIx (eVar 1) (eVar 3)) aNil))) [.val X, .val Y, a3, .un] ((List.range' j m).map fun i => .int (0 + ((i : Nat) : Int))) δ = some ((ks.drop j).map .bl, δ)
  | 0, j, hj, _, _, _ => by
    rw [List.drop_of_length_le (by omega)]
    rfl
  | m + 1, j, hj, hx, hy, hR => by
    rw [List.range'_succ, List.map_cons]
    have j1 : j < xs.length := by omega
    have j2 : j < ys.length := by omega
    have j3 : j < ks.length := by omega
    rw [List.drop_eq_getElem_cons j3, List.map_cons]
    apply lc_t
    · exact rfl
    · exact eYes_s
    · apply eCall_s
      · apply aCons_s
        · apply eOp_s
          · exact eVar_s rfl
          · exact eVar_s rfl
          · rw [Int.zero_add]
            exact hX j _ (List.getElem?_eq_getElem j1)
        · apply aCons_s
          · apply eOp_s
            · exact eVar_s rfl
            · exact eVar_s rfl
            · rw [Int.zero_add]
              exact hY j _ (List.getElem?_eq_getElem j2)
          · exact aNil_s
      · rfl
      · exact hR j _ _ _ (List.getElem?_eq_getElem j1) (List.getElem?_eq_getElem j2) (List.getElem?_eq_getElem j3)
    · exact alike_lc hX hY m (j + 1) (by omega) hx hy hR
theorem toB_map (ks : List Bool) : toB (ks.map .bl) = some ks := by
  induction ks with
  | nil => rfl
  | cons k ks ih =>
    show (toB (ks.map .bl)).map _ = _
    rw [ih]; rfl
theorem bnd_nat {m : Nat} (h : m < 1000000) : bnd (m : Int) = true := by
  unfold bnd
  simp only [Bool.and_eq_true, decide_eq_true_eq]
  omega
/-- two lists, or two tuples, of one length -/
theorem alike_seq {xs ys : List Dat} {ks : List Bool} {X Y : Dat} {m : String} (hk : (X = .lst xs ∧ Y = .lst ys) ∨ (X = .tup xs ∧ Y = .tup ys)) (hx : xs.length = ks.length) (hy : ys.length = ks.length) (hz : ks.length < 1000000)
    (hR : ∀ (i : Nat) x y k, xs[i]? = some x → ys[i]? = some y → ks[i]? = some k → G_l_alike n [x, y] δ = some (.bl k, δ)) : G_l_alike (n + 1) [X, Y] δ = some (.bl (ks.all id), δ) := by
  refine runG_r ?_
  show g_l_alike (G_l_alike n) [.val X, .val Y, .un, .un] δ = _
  have hlc := fun hX hY => alike_lc (δ := δ) (R := G_l_alike n) (xs := xs) (ys := ys) (ks := ks) (X := X) (Y := Y) (a3 := .un) hX hY ks.length 0 (by omega) hx hy hR
  have fin : ∀ (e1 : Ev), e1 = [.val X, .val Y, .un, .un] → dLen [Y] = some (.int ks.length) → lcD (tgName 3) eYes (eCall (G_l_alike n) (["_law_found", "_law_due"] : List Str).length (aCons (eOp dIx (eVar 0) (eVar 3)) (aCons (eOp dIx (eVar 1) (eVar 3)) aNil))) [.val X, .val Y, .un, .un] ((List.range' 0 ks.length).map fun i => .int (0 + ((i : Nat) : Int))) δ = some ((ks.drop 0).map .bl, δ) →
      gRet (eB dAll (aCons (eF (fLc (iR1 (aCons (eB dLen (aCons (eVar 1) aNil)) aNil)) (tgName 3) eYes (eCall (G_l_alike n) (["_law_found", "_law_due"] : List Str).length (aCons (eOp dIx (eVar 0) (eVar 3)) (aCons (eOp dIx (eVar 1) (eVar 3)) aNil))) [3])) aNil)) e1 δ = some (.rt (.bl (ks.all id)) δ) := by
    intro e1 he hL hc
    subst he
    apply gRet_s
    apply eB_s
    · apply aCons_s
      · apply eF_s
        apply fLc_s
        · apply iR1_s
          · exact aCons_s (eB_s (aCons_s (eVar_s rfl) aNil_s) hL) aNil_s
          · exact bnd_nat hz
        · unfold rangeD
          rw [List.length_map, List.length_range]
          omega
        · rfl
        · unfold rangeD
          rw [Int.sub_zero, Int.toNat_natCast, List.range_eq_range']
          exact hc
      · exact aNil_s
    · show (toB ((ks.drop 0).map .bl)).map _ = _
      rw [List.drop_zero, toB_map]
      rfl
  unfold g_l_alike
  rcases hk with ⟨rfl, rfl⟩ | ⟨rfl, rfl⟩
  · apply gSeq_n
    · exact gIf_f (eTest_s (eOp_s (eVar_s rfl) eC_s rfl)) gNext_s
    · apply gSeq_n
      · exact gIf_f (isi_s rfl rfl k_lb) gNext_s
      · apply gSeq_n
        · exact gIf_f (isi_s rfl rfl k_li) gNext_s
        · apply gSeq_n
          · exact gIf_f (isi_s rfl rfl k_ls) gNext_s
          · apply gSeq_n
            · exact gIf_f (isi_s rfl rfl k_ld) gNext_s
            · apply gSeq_n
              · exact gIf_f (eOrT_f (eTest_s (eOp_s (isiE_s rfl rfl k_lt) (isiE_s rfl rfl k_lt) rfl)) (eTest_s (eOp_s (isiE_s rfl rfl k_ll) (isiE_s rfl rfl k_ll) rfl))) gNext_s
              · apply gSeq_n
                · apply gIf_f
                  · apply eTest_s
                    apply eOp_s
                    · exact eB_s (aCons_s (eVar_s rfl) aNil_s) rfl
                    · exact eB_s (aCons_s (eVar_s rfl) aNil_s) rfl
                    · refine dNe_i.trans ?_
                      rw [hx, hy]
                      simp
                  · exact gNext_s
                · refine fin _ rfl ?_ (hlc (fun j x e => atI_nat' rfl e) (fun j x e => atI_nat' rfl e))
                  show some (Dat.int ys.length) = _
                  rw [hy]
  · apply gSeq_n
    · exact gIf_f (eTest_s (eOp_s (eVar_s rfl) eC_s rfl)) gNext_s
    · apply gSeq_n
      · exact gIf_f (isi_s rfl rfl k_tb) gNext_s
      · apply gSeq_n
        · exact gIf_f (isi_s rfl rfl k_ti) gNext_s
        · apply gSeq_n
          · exact gIf_f (isi_s rfl rfl k_ts) gNext_s
          · apply gSeq_n
            · exact gIf_f (isi_s rfl rfl k_td) gNext_s
            · apply gSeq_n
              · exact gIf_f (eOrT_f (eTest_s (eOp_s (isiE_s rfl rfl k_tt) (isiE_s rfl rfl k_tt) rfl)) (eTest_s (eOp_s (isiE_s rfl rfl k_tl) (isiE_s rfl rfl k_tl) rfl))) gNext_s
              · apply gSeq_n
                · apply gIf_f
                  · apply eTest_s
                    apply eOp_s
                    · exact eB_s (aCons_s (eVar_s rfl) aNil_s) rfl
                    · exact eB_s (aCons_s (eVar_s rfl) aNil_s) rfl
                    · refine dNe_i.trans ?_
                      rw [hx, hy]
                      simp
                  · exact gNext_s
                · refine fin _ rfl ?_ (hlc (fun j x e => atI_nat' rfl e) (fun j x e => atI_nat' rfl e))
                  show some (Dat.int ys.length) = _
                  rw [hy]
theorem alike_pr {p q : Int × Int} : G_l_alike (n + 2) [pD p, pD q] δ = some (.bl (decide (p = q)), δ) := by
  have := alike_seq (n := n + 1) (δ := δ) (m := "") (xs := [.int p.1, .int p.2]) (ys := [.int q.1, .int q.2]) (ks := [decide (p.1 = q.1), decide (p.2 = q.2)]) (X := pD p) (Y := pD q) (.inr ⟨rfl, rfl⟩) rfl rfl (by simp) (fun i x y k h1 h2 h3 => by
    match i, h1, h2, h3 with
    | 0, h1, h2, h3 => cases h1; cases h2; cases h3; exact alike_int
    | 1, h1, h2, h3 => cases h1; cases h2; cases h3; exact alike_int
    | i + 2, h1, _, _ => simp at h1)
  rw [this, show [decide (p.1 = q.1), decide (p.2 = q.2)].all id = decide (p = q) by obtain ⟨a, b⟩ := p; obtain ⟨c, d⟩ := q; simp]
theorem alike_prs_same {l : List (Int × Int)} (hz : l.length < 1000000) : G_l_alike (n + 3) [.lst (l.map pD), .lst (l.map pD)] δ = some (.bl true, δ) := by
  have := alike_seq (n := n + 2) (δ := δ) (m := "") (xs := l.map pD) (ys := l.map pD) (ks := l.map fun _ => true) (.inl ⟨rfl, rfl⟩) (by simp) (by simp) (by simpa using hz) (fun i x y k h1 h2 h3 => by
    rw [h1] at h2
    cases h2
    rw [List.getElem?_map] at h1 h3
    cases e : l[i]? with
    | none => rw [e] at h1; cases h1
    | some p =>
      rw [e] at h1 h3
      cases h1; cases h3
      rw [alike_pr]
      simp)
  rw [this, show (l.map fun _ => true).all id = true by simp]
end
end Cm

/-! Defs of floors, of the program and of the laws, by data (printed from the text by a tool of mine). -/
namespace Cm
open PySem PySem.Spec L2 Dl
def tup_SIDES : Dat := .ctup [.ctup [.str "e", .ctup [.int (0), .int (0)], .ctup [.int (0), .int (-1)]], .ctup [.str "n", .ctup [.int (1), .int (0)], .ctup [.int (1), .int (0)]], .ctup [.str "w", .ctup [.int (1), .int (1)], .ctup [.int (0), .int (1)]], .ctup [.str "s", .ctup [.int (0), .int (1)], .ctup [.int (-1), .int (0)]]]
abbrev N_p_first_corner : List Str := ["cells", "least", "x", "y"]
def g_p_first_corner : Sg :=
    (gSeq (gAsg (tgName 1) (eB dMin (aCons (eF (fLc (iLst (eVar 0)) (tgTup 2 (tgCons (tgName 2) (tgCons (tgName 3) tgNil))) eYes (eVar 3) [2, 3])) aNil)))
    (gRet (eTup (aCons (eB dMin (aCons (eF (fLc (iLst (eVar 0)) (tgTup 2 (tgCons (tgName 2) (tgCons (tgName 3) tgNil))) (eTest (eOp dEq (eVar 3) (eVar 1))) (eVar 2) [2, 3])) aNil)) (aCons (eVar 1) aNil)))))
def G_p_first_corner : GF := runG N_p_first_corner g_p_first_corner
abbrev N_p_rim_word : List Str := ["first", "leaving", "word", "corner", "step"]
def b_p_rim_word_1 : Sg := (gSeq (gAsg (tgName 4) (eDctGet (eVar 1) (eVar 3)))
    (gSeq (gAsg (tgName 2) (eOp dAdd (eVar 2) (eVar 4)))
    (gAsg (tgName 3) (eOp dIx (eCall G_p_corners (["corner", "word"] : List Str).length (aCons (eVar 3) (aCons (eVar 4) aNil))) (eUn dNeg (eC (.int 1)))))))
def g_p_rim_word : Sg :=
    (gSeq (gAsg (tgName 2) (eDctGet (eVar 1) (eVar 0)))
    (gSeq (gAsg (tgName 3) (eOp dIx (eCall G_p_corners (["corner", "word"] : List Str).length (aCons (eVar 0) (aCons (eVar 2) aNil))) (eUn dNeg (eC (.int 1)))))
    (gSeq (whileD (eTest (eOp dNe (eVar 3) (eVar 0))) b_p_rim_word_1 100000)
    (gSeq (gIf (eTest (eOp dLt (eB dLen (aCons (eVar 2) aNil)) (eB dLenT (aCons (eVar 1) aNil)))) gNever gNext)
    (gRet (eVar 2))))))
def G_p_rim_word : GF := runG N_p_rim_word g_p_rim_word
abbrev N_p_rim_steps : List Str := ["held", "leaving", "x", "y", "step", "right", "up", "aside", "beyond", "corner"]
def b_p_rim_steps_1 : Sg := (gSeq (gIf (eTest (eDin false (eTup (aCons (eOp dAdd (eVar 2) (eVar 7)) (aCons (eOp dAdd (eVar 3) (eVar 8)) aNil))) (eVar 0))) gCont gNext)
    (gSeq (gAsg (tgName 9) (eTup (aCons (eOp dAdd (eVar 2) (eVar 5)) (aCons (eOp dAdd (eVar 3) (eVar 6)) aNil))))
    (gSeq (gIf (eTest (eDin false (eVar 9) (eVarB 1))) gNever gNext)
    (gPutT 1 (eVar 4) (eVar 9)))))
def b_p_rim_steps_2 : Sg := (gFor (iTupD (eC tup_SIDES)) (tgTup 3 (tgCons (tgName 4) (tgCons (tgTup 2 (tgCons (tgName 5) (tgCons (tgName 6) tgNil))) (tgCons (tgTup 2 (tgCons (tgName 7) (tgCons (tgName 8) tgNil))) tgNil)))) b_p_rim_steps_1)
def g_p_rim_steps : Sg :=
    (gSeq (gNewT 1)
    (gSeq (gForK 0 (tgTup 2 (tgCons (tgName 2) (tgCons (tgName 3) tgNil))) b_p_rim_steps_2)
    (gRetC 1)))
def G_p_rim_steps : GF := runG N_p_rim_steps g_p_rim_steps
abbrev N_p_Floor_cells : List Str := ["self"]
def g_p_Floor_cells : Sg :=
    (gRet (eB dListT (aCons (eFld "Floor" "_cells" (eVar 0)) aNil)))
def G_p_Floor_cells : GF := runG N_p_Floor_cells g_p_Floor_cells
abbrev N_p_Floor_first : List Str := ["self"]
def g_p_Floor_first : Sg :=
    (gRet (eFld "Floor" "_first" (eVar 0)))
def G_p_Floor_first : GF := runG N_p_Floor_first g_p_Floor_first
abbrev N_p_Floor_rim : List Str := ["self"]
def g_p_Floor_rim : Sg :=
    (gRet (eFld "Floor" "_rim" (eVar 0)))
def G_p_Floor_rim : GF := runG N_p_Floor_rim g_p_Floor_rim
abbrev N_p_rim_corners : List Str := ["floor"]
def g_p_rim_corners : Sg :=
    (gRet (eSl (eCall G_p_corners (["corner", "word"] : List Str).length (aCons (eMeth "Floor" "first" (["self"] : List Str).length G_p_Floor_first (eVar 0) aNil) (aCons (eMeth "Floor" "rim" (["self"] : List Str).length G_p_Floor_rim (eVar 0) aNil) aNil))) oNone (oSome (eUn dNeg (eC (.int 1))))))
def G_p_rim_corners : GF := runG N_p_rim_corners g_p_rim_corners
abbrev N_p_rim_from : List Str := ["floor", "corner", "around", "at", "word"]
def g_p_rim_from : Sg :=
    (gSeq (gAsg (tgName 2) (eCall G_p_rim_corners (["floor"] : List Str).length (aCons (eVar 0) aNil)))
    (gSeq (gIf (eTest (eOp dNotIn (eVar 1) (eVar 2))) gNever gNext)
    (gSeq (gAsg (tgName 3) (eOp dIndexP (eVar 2) (eVar 1)))
    (gSeq (gAsg (tgName 4) (eMeth "Floor" "rim" (["self"] : List Str).length G_p_Floor_rim (eVar 0) aNil))
    (gRet (eOp dAdd (eSl (eVar 4) (oSome (eVar 3)) oNone) (eSl (eVar 4) oNone (oSome (eVar 3)))))))))
def G_p_rim_from : GF := runG N_p_rim_from g_p_rim_from
abbrev N_l_beside : List Str := ["_law_corner", "_law_letter", "_law_x", "_law_y", "_law_at", "_law_left", "_law_right"]
def g_l_beside : Sg :=
    (gSeq (gAsg (tgTup 2 (tgCons (tgName 2) (tgCons (tgName 3) tgNil))) (eVar 0))
    (gSeq (gAsg (tgName 4) (eOp dIndex (eC (.str "enws")) (eVar 1)))
    (gSeq (gAsg (tgName 5) (eOp dIx (eLst (aCons (eTup (aCons (eVar 2) (aCons (eVar 3) aNil))) (aCons (eTup (aCons (eOp dSub (eVar 2) (eC (.int 1))) (aCons (eVar 3) aNil))) (aCons (eTup (aCons (eOp dSub (eVar 2) (eC (.int 1))) (aCons (eOp dSub (eVar 3) (eC (.int 1))) aNil))) (aCons (eTup (aCons (eVar 2) (aCons (eOp dSub (eVar 3) (eC (.int 1))) aNil))) aNil))))) (eVar 4)))
    (gSeq (gAsg (tgName 6) (eOp dIx (eLst (aCons (eTup (aCons (eVar 2) (aCons (eOp dSub (eVar 3) (eC (.int 1))) aNil))) (aCons (eTup (aCons (eVar 2) (aCons (eVar 3) aNil))) (aCons (eTup (aCons (eOp dSub (eVar 2) (eC (.int 1))) (aCons (eVar 3) aNil))) (aCons (eTup (aCons (eOp dSub (eVar 2) (eC (.int 1))) (aCons (eOp dSub (eVar 3) (eC (.int 1))) aNil))) aNil))))) (eVar 4)))
    (gRet (eTup (aCons (eVar 5) (aCons (eVar 6) aNil))))))))
def G_l_beside : GF := runG N_l_beside g_l_beside
abbrev N_l_begin : List Str := ["_law_cells_here", "_law_low", "_law_cell"]
def g_l_begin : Sg :=
    (gSeq (gAsg (tgName 1) (eB dMin (aCons (eF (fLc (iLst (eVar 0)) (tgName 2) eYes (eOp dIx (eVar 2) (eC (.int 1))) [2])) aNil)))
    (gRet (eTup (aCons (eB dMin (aCons (eF (fLc (iLst (eVar 0)) (tgName 2) (eTest (eOp dEq (eOp dIx (eVar 2) (eC (.int 1))) (eVar 1))) (eOp dIx (eVar 2) (eC (.int 0))) [2])) aNil)) (aCons (eVar 1) aNil)))))
def G_l_begin : GF := runG N_l_begin g_l_begin
abbrev N_l_rim : List Str := ["_law_cells_here", "_law_many", "_law_cell", "_law_near", "_law_here", "_law_word", "_law_seen", "_law_ways", "_law_letter", "_law_left", "_law_right", "_law_one"]
def b_l_rim_1 : Sg := (gSeq (gAsg (tgName 3) (eLst (aCons (eTup (aCons (eOp dAdd (eOp dIx (eVar 2) (eC (.int 0))) (eC (.int 1))) (aCons (eOp dIx (eVar 2) (eC (.int 1))) aNil))) (aCons (eTup (aCons (eOp dSub (eOp dIx (eVar 2) (eC (.int 0))) (eC (.int 1))) (aCons (eOp dIx (eVar 2) (eC (.int 1))) aNil))) (aCons (eTup (aCons (eOp dIx (eVar 2) (eC (.int 0))) (aCons (eOp dAdd (eOp dIx (eVar 2) (eC (.int 1))) (eC (.int 1))) aNil))) (aCons (eTup (aCons (eOp dIx (eVar 2) (eC (.int 0))) (aCons (eOp dSub (eOp dIx (eVar 2) (eC (.int 1))) (eC (.int 1))) aNil))) aNil))))))
    (gAsg (tgName 1) (eOp dAdd (eVar 1) (eB dLen (aCons (eF (fLc (iLst (eVar 3)) (tgName 11) (eTest (eOp dNotIn (eVar 11) (eVar 0))) (eVar 11) [11])) aNil)))))
def b_l_rim_2 : Sg := (gSeq (gAsg (tgTup 2 (tgCons (tgName 9) (tgCons (tgName 10) tgNil))) (eCall G_l_beside (["_law_corner", "_law_letter"] : List Str).length (aCons (eVar 4) (aCons (eVar 8) aNil))))
    (gIf (eAndT (eTest (eOp dIn (eVar 9) (eVar 0))) (eTest (eOp dNotIn (eVar 10) (eVar 0)))) (gAppend 7 (eVar 8)) gNext))
def b_l_rim_3 : Sg := (gSeq (gAppend 6 (eVar 4))
    (gSeq (gOwn 7 (fLst aNil))
    (gSeq (gFor (iStrD (eC (.str "enws"))) (tgName 8) b_l_rim_2)
    (gSeq (gIf (eTest (eOp dNe (eB dLen (aCons (eVarB 7) aNil)) (eC (.int 1)))) (gRet (eC .non)) gNext)
    (gSeq (gAsg (tgName 5) (eOp dAdd (eVar 5) (eOp dIx (eVarB 7) (eC (.int 0)))))
    (gAsg (tgName 4) (eCall G_l_next (["_law_corner", "_law_letter"] : List Str).length (aCons (eVar 4) (aCons (eOp dIx (eVarB 7) (eC (.int 0))) aNil)))))))))
def g_l_rim : Sg :=
    (gSeq (gAsg (tgName 1) (eC (.int 0)))
    (gSeq (gFor (iLst (eVar 0)) (tgName 2) b_l_rim_1)
    (gSeq (gAsg (tgName 4) (eCall G_l_begin (["_law_cells_here"] : List Str).length (aCons (eVar 0) aNil)))
    (gSeq (gAsg (tgName 5) (eC (.str "")))
    (gSeq (gOwn 6 (fLst aNil))
    (gSeq (whileD (eAndT (eTest (eOp dNotIn (eVar 4) (eVarB 6))) (eTest (eOp dLt (eB dLen (aCons (eVar 5) aNil)) (eVar 1)))) b_l_rim_3 100000)
    (gSeq (gIf (eOrT (eTest (eOp dNe (eVar 4) (eOp dIx (eVarB 6) (eC (.int 0))))) (eTest (eOp dNe (eB dLen (aCons (eVar 5) aNil)) (eVar 1)))) (gRet (eC .non)) gNext)
    (gRet (eVar 5)))))))))
def G_l_rim : GF := runG N_l_rim g_l_rim
abbrev N_l_grown : List Str := ["_law_d", "_law_most", "_law_place", "_law_cells_here", "_law_turn", "_law_x", "_law_y", "_law_one"]
def b_l_grown_1 : Sg := (gSeq (gAsg (tgTup 2 (tgCons (tgName 5) (tgCons (tgName 6) tgNil))) (eOp dIx (eVarB 3) (eCall G_l_off (["_law_d", "_law_most"] : List Str).length (aCons (eVar 0) (aCons (eB dLen (aCons (eVarB 3) aNil)) aNil)))))
    (gSeq (gAsg (tgName 7) (eOp dIx (eLst (aCons (eTup (aCons (eOp dAdd (eVar 5) (eC (.int 1))) (aCons (eVar 6) aNil))) (aCons (eTup (aCons (eVar 5) (aCons (eOp dAdd (eVar 6) (eC (.int 1))) aNil))) (aCons (eTup (aCons (eOp dSub (eVar 5) (eC (.int 1))) (aCons (eVar 6) aNil))) (aCons (eTup (aCons (eVar 5) (aCons (eOp dSub (eVar 6) (eC (.int 1))) aNil))) aNil))))) (eCall G_l_off (["_law_d", "_law_most"] : List Str).length (aCons (eVar 0) (aCons (eC (.int 4)) aNil)))))
    (gIf (eAndT (eTest (eOp dNotIn (eVar 7) (eVarB 3))) (eAndT (eTest (eChain dLe dLt (eC (.int 0)) (eOp dIx (eVar 7) (eC (.int 0))) (eC (.int 12)))) (eAndT (eTest (eChain dLe dLt (eC (.int 0)) (eOp dIx (eVar 7) (eC (.int 1))) (eC (.int 12)))) (eTest (eOp dNotN (eCall G_l_rim (["_law_cells_here"] : List Str).length (aCons (eOp dAdd (eVarB 3) (eLst (aCons (eVar 7) aNil))) aNil)) (eC .non)))))) (gAppend 3 (eVar 7)) gNext)))
def g_l_grown : Sg :=
    (gSeq (gOwn 3 (fLst (aCons (eVar 2) aNil)))
    (gSeq (gFor (iR1 (aCons (eCall G_l_off (["_law_d", "_law_most"] : List Str).length (aCons (eVar 0) (aCons (eVar 1) aNil))) aNil)) (tgName 4) b_l_grown_1)
    (gRetOwn 3)))
def G_l_grown : GF := runG N_l_grown g_l_grown
abbrev N_l_block : List Str := ["_law_x", "_law_y", "_law_wide", "_law_high", "_law_cells_here", "_law_k", "_law_j"]
def b_l_block_1 : Sg := (gAsg (tgName 4) (eOp dAdd (eVar 4) (eF (fLc (iR1 (aCons (eVar 3) aNil)) (tgName 6) eYes (eTup (aCons (eOp dAdd (eVar 0) (eVar 5)) (aCons (eOp dAdd (eVar 1) (eVar 6)) aNil))) [6]))))
def g_l_block : Sg :=
    (gSeq (gAsg (tgName 4) (eLst aNil))
    (gSeq (gFor (iR1 (aCons (eVar 2) aNil)) (tgName 5) b_l_block_1)
    (gRet (eVar 4))))
def G_l_block : GF := runG N_l_block g_l_block
abbrev N_l_shape : List Str := ["_law_d", "_law_most", "_law_way", "_law_place", "_law_wide", "_law_high", "_law_cells_here", "_law_gone", "_law_left", "_law_more", "_law_cell"]
def g_l_shape : Sg :=
    (gSeq (gAsg (tgName 2) (eCall G_l_off (["_law_d", "_law_most"] : List Str).length (aCons (eVar 0) (aCons (eC (.int 5)) aNil))))
    (gSeq (gAsg (tgName 3) (eTup (aCons (eCall G_l_off (["_law_d", "_law_most"] : List Str).length (aCons (eVar 0) (aCons (eC (.int 4)) aNil))) (aCons (eCall G_l_off (["_law_d", "_law_most"] : List Str).length (aCons (eVar 0) (aCons (eC (.int 4)) aNil))) aNil))))
    (gSeq (gIf (eTest (eOp dLt (eVar 2) (eC (.int 2)))) (gRet (eCall G_l_grown (["_law_d", "_law_most", "_law_place"] : List Str).length (aCons (eVar 0) (aCons (eVar 1) (aCons (eVar 3) aNil))))) gNext)
    (gSeq (gAsg (tgName 4) (eOp dAdd (eC (.int 1)) (eCall G_l_off (["_law_d", "_law_most"] : List Str).length (aCons (eVar 0) (aCons (eC (.int 6)) aNil)))))
    (gSeq (gAsg (tgName 5) (eOp dAdd (eC (.int 1)) (eCall G_l_off (["_law_d", "_law_most"] : List Str).length (aCons (eVar 0) (aCons (eB dMax2 (aCons (eC (.int 1)) (aCons (eB dMin2 (aCons (eC (.int 8)) (aCons (eOp dFdiv (eVar 1) (eVar 4)) aNil))) aNil))) aNil)))))
    (gSeq (gAsg (tgName 6) (eCall G_l_block (["_law_x", "_law_y", "_law_wide", "_law_high"] : List Str).length (aCons (eOp dIx (eVar 3) (eC (.int 0))) (aCons (eOp dIx (eVar 3) (eC (.int 1))) (aCons (eVar 4) (aCons (eVar 5) aNil))))))
    (gSeq (gIf (eAndT (eTest (eOp dEq (eVar 2) (eC (.int 3)))) (eAndT (eTest (eOp dGt (eVar 4) (eC (.int 1)))) (eTest (eOp dGt (eVar 5) (eC (.int 1)))))) (gSeq (gAsg (tgName 7) (eLst (aCons (eVar 3) (aCons (eTup (aCons (eOp dSub (eOp dAdd (eOp dIx (eVar 3) (eC (.int 0))) (eVar 4)) (eC (.int 1))) (aCons (eOp dSub (eOp dAdd (eOp dIx (eVar 3) (eC (.int 1))) (eVar 5)) (eC (.int 1))) aNil))) (aCons (eTup (aCons (eOp dIx (eVar 3) (eC (.int 0))) (aCons (eOp dSub (eOp dAdd (eOp dIx (eVar 3) (eC (.int 1))) (eVar 5)) (eC (.int 1))) aNil))) aNil)))))
    (gSeq (gAsg (tgName 8) (eF (fLc (iLst (eVar 6)) (tgName 10) (eTest (eOp dNotIn (eVar 10) (eSl (eVar 7) (oSome (eCall G_l_off (["_law_d", "_law_most"] : List Str).length (aCons (eVar 0) (aCons (eC (.int 2)) aNil)))) (oSome (eOp dAdd (eC (.int 1)) (eCall G_l_off (["_law_d", "_law_most"] : List Str).length (aCons (eVar 0) (aCons (eC (.int 3)) aNil)))))))) (eVar 10) [10])))
    (gIf (eAndT (eTest (eOp dNe (eVar 8) (eLst aNil))) (eTest (eOp dNotN (eCall G_l_rim (["_law_cells_here"] : List Str).length (aCons (eVar 8) aNil)) (eC .non)))) (gAsg (tgName 6) (eVar 8)) gNext))) gNext)
    (gSeq (gIf (eTest (eOp dEq (eVar 2) (eC (.int 4)))) (gSeq (gAsg (tgName 9) (eOp dAdd (eVar 6) (eLst (aCons (eTup (aCons (eOp dAdd (eOp dIx (eVar 3) (eC (.int 0))) (eVar 4)) (aCons (eOp dAdd (eOp dIx (eVar 3) (eC (.int 1))) (eCall G_l_off (["_law_d", "_law_most"] : List Str).length (aCons (eVar 0) (aCons (eVar 5) aNil)))) aNil))) aNil))))
    (gIf (eTest (eOp dLe (eB dLen (aCons (eVar 9) aNil)) (eVar 1))) (gAsg (tgName 6) (eVar 9)) gNext)) gNext)
    (gRet (eVar 6))))))))))
def G_l_shape : GF := runG N_l_shape g_l_shape
abbrev N_l_cells : List Str := ["_law_d", "_law_most", "_law_cells_here", "_law_aside", "_law_up", "_law_cell", "_law_x", "_law_y"]
def g_l_cells : Sg :=
    (gSeq (gAsg (tgName 2) (eCall G_l_shape (["_law_d", "_law_most"] : List Str).length (aCons (eVar 0) (aCons (eVar 1) aNil))))
    (gSeq (gIf (eTest (eOp dEq (eCall G_l_off (["_law_d", "_law_most"] : List Str).length (aCons (eVar 0) (aCons (eC (.int 2)) aNil))) (eC (.int 0)))) (gSeq (gAsg (tgTup 2 (tgCons (tgName 3) (tgCons (tgName 4) tgNil))) (eTup (aCons (eOp dSub (eC (.int 11)) (eB dMax (aCons (eF (fLc (iLst (eVar 2)) (tgName 5) eYes (eOp dIx (eVar 5) (eC (.int 0))) [5])) aNil))) (aCons (eOp dSub (eC (.int 11)) (eB dMax (aCons (eF (fLc (iLst (eVar 2)) (tgName 5) eYes (eOp dIx (eVar 5) (eC (.int 1))) [5])) aNil))) aNil))))
    (gAsg (tgName 2) (eF (fLc (iLst (eVar 2)) (tgTup 2 (tgCons (tgName 6) (tgCons (tgName 7) tgNil))) eYes (eTup (aCons (eOp dAdd (eVar 6) (eVar 3)) (aCons (eOp dAdd (eVar 7) (eVar 4)) aNil))) [6, 7])))) gNext)
    (gRet (eVar 2))))
def G_l_cells : GF := runG N_l_cells g_l_cells

end Cm

/-! The laws' own rim of cells, as a function of pairs. -/
namespace Cm
open PySem PySem.Spec L2 Dl
abbrev P2 := Int × Int
def lcell (p : P2) (c : Nat) : P2 := if c = 101 then (p.1, p.2) else if c = 110 then (p.1 - 1, p.2) else if c = 119 then (p.1 - 1, p.2 - 1) else (p.1, p.2 - 1)
def rcell (p : P2) (c : Nat) : P2 := if c = 101 then (p.1, p.2 - 1) else if c = 110 then (p.1, p.2) else if c = 119 then (p.1 - 1, p.2) else (p.1 - 1, p.2 - 1)
theorem beside_eq {p : P2} {c : Nat} {δ : List Int} (h : L4 c) : G_l_beside [pD p, .str (S [c])] δ = some (.tup [pD (lcell p c), pD (rcell p c)], δ) := by
  refine runG_r ?_
  show g_l_beside [.val (pD p), .val (.str (S [c])), .un, .un, .un, .un, .un] δ = _
  unfold g_l_beside
  apply gSeq_n
  · exact gAsg_s (eVar_s rfl) rfl
  · apply gSeq_n
    · apply gAsg_s
      · exact eOp_s eC_s (eVar_s rfl) (index_enws h)
      · exact rfl
    · rcases h with rfl | rfl | rfl | rfl <;> exact rfl
/-! the first corner -/
def minI : List Int → Int
  | [] => 0
  | k :: ks => minL k ks
theorem toI_map : ∀ ks : List Int, toI (ks.map .int) = some ks
  | [] => rfl
  | k :: ks => by
    show (toI (ks.map .int)).map _ = _
    rw [toI_map ks]
    rfl
theorem dMin_s {ks : List Int} (h : ks ≠ []) : dMin [.lst (ks.map .int)] = some (.int (minI ks)) := by
  cases ks with
  | nil => exact absurd rfl h
  | cons k ks =>
    show (toI ((k :: ks).map .int)).bind _ = _
    rw [toI_map]
    rfl
theorem minI_le {ks : List Int} : ∀ j ∈ ks, minI ks ≤ j := by
  intro j hj
  cases ks with
  | nil => cases hj
  | cons k ks =>
    have := minL_le ks k
    rcases List.mem_cons.mp hj with rfl | hj
    · exact this.1
    · exact this.2 j hj
theorem minI_mem {ks : List Int} (h : ks ≠ []) : minI ks ∈ ks := by
  cases ks with
  | nil => exact absurd rfl h
  | cons k ks =>
    rcases minL_mem ks k with e | e
    · show minL k ks ∈ _
      rw [e]
      exact List.mem_cons_self
    · exact List.mem_cons_of_mem _ e
def begM (cs : List P2) : P2 := (minI ((cs.filter fun p => decide (p.2 = minI (cs.map (·.2)))).map (·.1)), minI (cs.map (·.2)))
theorem begM_mem {cs : List P2} (h : cs ≠ []) : begM cs ∈ cs := by
  have h1 : minI (cs.map (·.2)) ∈ cs.map (·.2) := minI_mem (by simpa using h)
  obtain ⟨p, hp, e⟩ := List.mem_map.mp h1
  have h2 : (cs.filter fun p => decide (p.2 = minI (cs.map (·.2)))).map (·.1) ≠ [] := by
    intro z
    have z := List.map_eq_nil_iff.mp z
    have := List.filter_eq_nil_iff.mp z p hp
    simp [e] at this
  obtain ⟨q, hq, e2⟩ := List.mem_map.mp (minI_mem h2)
  obtain ⟨hq1, hq2⟩ := List.mem_filter.mp hq
  have : begM cs = q := Prod.ext e2.symm (of_decide_eq_true hq2).symm
  rw [this]
  exact hq1
theorem low_le {cs : List P2} : ∀ p ∈ cs, (begM cs).2 ≤ p.2 := fun p hp => minI_le _ (List.mem_map.mpr ⟨p, hp, rfl⟩)
theorem dIx_p0 (p : P2) : dIx (pD p) (.int 0) = some (.int p.1) := rfl
theorem dIx_p1 (p : P2) : dIx (pD p) (.int 1) = some (.int p.2) := rfl
theorem begin_eq {cs : List P2} {δ : List Int} (h : cs ≠ []) (hl : cs.length < 1000000) : G_l_begin [.lst (cs.map pD)] δ = some (pD (begM cs), δ) := by
  refine runG_r ?_
  show g_l_begin [.val (.lst (cs.map pD)), .un, .un] δ = _
  unfold g_l_begin
  have e1 : ∀ cs : List P2, (cs.map pD).map (fun x => match x with | .tup [_, y] => y | _ => .non) = (cs.map (·.2)).map .int := fun cs => by
    rw [List.map_map, List.map_map]
    rfl
  have hne : (cs.filter fun p => decide (p.2 = minI (cs.map (·.2)))).map (·.1) ≠ [] := by
    intro z
    have := List.filter_eq_nil_iff.mp (List.map_eq_nil_iff.mp z) _ (begM_mem h)
    exact this (decide_eq_true rfl)
  have e3 : ((cs.map pD).filter (fun x => match x with | .tup [_, .int y] => decide (y = minI (cs.map (·.2))) | _ => false)).map (fun x => match x with | .tup [y, _] => y | _ => .non) = ((cs.filter fun p => decide (p.2 = minI (cs.map (·.2)))).map (·.1)).map .int := by
    rw [List.filter_map, List.map_map, List.map_map]
    rfl
  apply gSeq_n
  · apply gAsg_s
    · apply eB_s
      · apply aCons_s
        · apply eF_s
          apply fLc_s
          · exact iLst_s (eVar_s rfl)
          · simpa using hl
          · exact rfl
          · apply lc_map (φ := fun x => match x with | .tup [_, y] => y | _ => .non)
            intro x hx
            obtain ⟨p, _, rfl⟩ := List.mem_map.mp hx
            exact ⟨_, rfl, eYes_s, eOp_s (eVar_s rfl) eC_s (dIx_p1 p)⟩
        · exact aNil_s
      · rw [e1]
        exact dMin_s (by simpa using h)
    · exact rfl
  · apply gRet_s
    apply eTup_s
    · apply aCons_s
      · apply eB_s
        · apply aCons_s
          · apply eF_s
            apply fLc_s
            · exact iLst_s (eVar_s rfl)
            · simpa using hl
            · exact rfl
            · apply lc_filter (φ := fun x => match x with | .tup [y, _] => y | _ => .non) (p := fun x => match x with | .tup [_, .int y] => decide (y = minI (cs.map (·.2))) | _ => false)
              intro x hx
              obtain ⟨p, _, rfl⟩ := List.mem_map.mp hx
              exact ⟨_, rfl, eTest_s (eOp_s (eOp_s (eVar_s rfl) eC_s (dIx_p1 p)) (eVar_s rfl) dEq_i), eOp_s (eVar_s rfl) eC_s (dIx_p0 p)⟩
          · exact aNil_s
        · rw [e3]
          exact dMin_s hne
      · apply aCons_s
        · exact eVar_s rfl
        · exact aNil_s
    · simp
/-! how many sides -/
def nearM (p : P2) : List P2 := [(p.1 + 1, p.2), (p.1 - 1, p.2), (p.1, p.2 + 1), (p.1, p.2 - 1)]
def outM (all : List P2) (p : P2) : Nat := ((nearM p).filter fun q => decide (q ∉ all)).length
def manyM (all : List P2) : List P2 → Nat
  | [] => 0
  | p :: cs => outM all p + manyM all cs
theorem outM_le (all : List P2) (p : P2) : outM all p ≤ 4 := List.length_filter_le _ _
theorem manyM_le (all : List P2) : ∀ cs, manyM all cs ≤ 4 * cs.length
  | [] => Nat.le_refl _
  | p :: cs => by
    have := outM_le all p
    have := manyM_le all cs
    simp only [manyM, List.length_cons]
    omega
theorem dLen_l {xs : List Dat} (h : xs.length < 1000000) : dLen [.lst xs] = some (.int xs.length) := rfl
theorem dNotIn_pr (p : P2) (l : List P2) : dNotIn (pD p) (.lst (l.map pD)) = some (.bl (decide (p ∉ l))) := by
  show ((inD (pD p) (l.map pD)).map fun k => Dat.bl (k != true)).orElse _ = _
  rw [inD_pr]
  by_cases h : p ∈ l <;> simp [h]
theorem dIn_pr (p : P2) (l : List P2) : dIn (pD p) (.lst (l.map pD)) = some (.bl (decide (p ∈ l))) := by
  show ((inD (pD p) (l.map pD)).map fun k => Dat.bl (k != false)).orElse _ = _
  rw [inD_pr]
  by_cases h : p ∈ l <;> simp [h]
theorem many_for {all : List P2} {δ : List Int} (a4 a5 a6 a7 a8 a9 a10 : Dl.Slot) : ∀ (cs : List P2) (n : Nat) (s2 s3 : Dl.Slot),
    ∃ s2' s3', forD (tgName 2) b_l_rim_1 (cs.map pD) [.val (.lst (all.map pD)), .val (.int n), s2, s3, a4, a5, a6, a7, a8, a9, a10, .un] δ = some (.nx [.val (.lst (all.map pD)), .val (.int ((n + manyM all cs : Nat) : Int)), s2', s3', a4, a5, a6, a7, a8, a9, a10, .un] δ)
  | [], n, s2, s3 => ⟨s2, s3, by simp [manyM, forD]⟩
  | p :: cs, n, s2, s3 => by
    obtain ⟨t2, t3, e⟩ := many_for (all := all) (δ := δ) a4 a5 a6 a7 a8 a9 a10 cs (n + outM all p) (.val (pD p)) (.val (.lst ((nearM p).map pD)))
    refine ⟨t2, t3, ?_⟩
    have len : ((((nearM p).map pD).filter (fun x => match x with | .tup [.int x, .int y] => decide ((x, y) ∉ all) | _ => false)).map id).length = outM all p := by
      rw [List.map_id, List.filter_map, List.length_map]
      rfl
    have e1 : (n + outM all p + manyM all cs : Nat) = n + manyM all (p :: cs) := by simp only [manyM]; omega
    rw [e1] at e
    rw [List.map_cons]
    apply forD_n
    · exact rfl
    · unfold b_l_rim_1
      apply gSeq_n
      · exact gAsg_s (eLst_s (aCons_s (eTup_s (aCons_s (eOp_s (eOp_s (eVar_s rfl) eC_s (dIx_p0 p)) eC_s dAdd_i) (aCons_s (eOp_s (eVar_s rfl) eC_s (dIx_p1 p)) aNil_s)) (by simp)) (aCons_s (eTup_s (aCons_s (eOp_s (eOp_s (eVar_s rfl) eC_s (dIx_p0 p)) eC_s dSub_i) (aCons_s (eOp_s (eVar_s rfl) eC_s (dIx_p1 p)) aNil_s)) (by simp)) (aCons_s (eTup_s (aCons_s (eOp_s (eVar_s rfl) eC_s (dIx_p0 p)) (aCons_s (eOp_s (eOp_s (eVar_s rfl) eC_s (dIx_p1 p)) eC_s dAdd_i) aNil_s)) (by simp)) (aCons_s (eTup_s (aCons_s (eOp_s (eVar_s rfl) eC_s (dIx_p0 p)) (aCons_s (eOp_s (eOp_s (eVar_s rfl) eC_s (dIx_p1 p)) eC_s dSub_i) aNil_s)) (by simp)) aNil_s)))) (by simp)) rfl
      · apply gAsg_s
        · apply eOp_s (z := .int ((n + outM all p : Nat) : Int))
          · exact eVar_s rfl
          · apply eB_s
            · apply aCons_s
              · apply eF_s
                apply fLc_s
                · exact iLst_s (eVar_s rfl)
                · simp
                · exact rfl
                · apply lc_filter (xs := (nearM p).map pD) (φ := id) (p := fun x => match x with | .tup [.int x, .int y] => decide ((x, y) ∉ all) | _ => false)
                  intro x hx
                  obtain ⟨q, _, rfl⟩ := List.mem_map.mp hx
                  exact ⟨_, rfl, eTest_s (eOp_s (eVar_s rfl) (eVar_s rfl) (dNotIn_pr q all)), eVar_s rfl⟩
              · exact aNil_s
            · exact dLen_l (by rw [len]; have := outM_le all p; omega)
          · rw [len]
            exact dAdd_i
        · exact rfl
    · exact e
/-! the ways on from a corner -/
def okW (all : List P2) (p : P2) (c : Nat) : Bool := decide (lcell p c ∈ all) && decide (rcell p c ∉ all)
def waysM (all : List P2) (p : P2) : List Nat := [101, 110, 119, 115].filter (okW all p)
theorem ways_L4 {all : List P2} {p : P2} : ∀ c ∈ waysM all p, L4 c := fun c hc => by
  have := (List.mem_filter.mp hc).1
  unfold L4
  simpa using this
theorem tst_eq {all : List P2} {here : P2} {c : Nat} {env : Ev} {δ : List Int} (h0 : env[0]? = some (.val (.lst (all.map pD)))) (h9 : env[9]? = some (.val (pD (lcell here c)))) (h10 : env[10]? = some (.val (pD (rcell here c)))) :
    eAndT (eTest (eOp dIn (eVar 9) (eVar 0))) (eTest (eOp dNotIn (eVar 10) (eVar 0))) env δ = some (okW all here c, δ) := by
  have h1 := eTest_s (eOp_s (δ := δ) (eVar_s h9) (eVar_s h0) (dIn_pr (lcell here c) all))
  have h2 := eTest_s (eOp_s (δ := δ) (eVar_s h10) (eVar_s h0) (dNotIn_pr (rcell here c) all))
  unfold okW
  cases e : decide (lcell here c ∈ all) with
  | true =>
    rw [e] at h1
    rw [eAndT_t h1 h2]
    rfl
  | false =>
    rw [e] at h1
    rw [eAndT_f h1]
    rfl
theorem ways_for {all : List P2} {here : P2} {δ : List Int} (a1 a2 a3 a5 a6 a11 : Dl.Slot) : ∀ (ls : List Nat) (hl : ∀ c ∈ ls, L4 c) (acc : List Nat) (s8 s9 s10 : Dl.Slot), acc.length + ls.length < 1000 →
    ∃ s8' s9' s10', forD (tgName 8) b_l_rim_2 (ls.map ltr) [.val (.lst (all.map pD)), a1, a2, a3, .val (pD here), a5, a6, .own (.lst, acc.map ltr), s8, s9, s10, a11] δ =
      some (.nx [.val (.lst (all.map pD)), a1, a2, a3, .val (pD here), a5, a6, .own (.lst, (acc ++ ls.filter (okW all here)).map ltr), s8', s9', s10', a11] δ)
  | [], _, acc, s8, s9, s10, _ => ⟨s8, s9, s10, by simp [forD]⟩
  | c :: ls, hl, acc, s8, s9, s10, hz => by
    have hc := hl c List.mem_cons_self
    have hz' : acc.length + (ls.length + 1) < 1000 := by simpa using hz
    cases h : okW all here c with
    | true =>
      obtain ⟨t8, t9, t10, e⟩ := ways_for (all := all) (here := here) (δ := δ) a1 a2 a3 a5 a6 a11 ls (fun d hd => hl d (List.mem_cons_of_mem _ hd)) (acc ++ [c]) (.val (ltr c)) (.val (pD (lcell here c))) (.val (pD (rcell here c))) (by simp; omega)
      refine ⟨t8, t9, t10, ?_⟩
      rw [List.filter_cons_of_pos h, show acc ++ c :: ls.filter (okW all here) = (acc ++ [c]) ++ ls.filter (okW all here) by simp, List.map_cons]
      apply forD_n
      · exact rfl
      · unfold b_l_rim_2
        apply gSeq_n
        · exact gAsg_s (eCall_s (aCons_s (eVar_s rfl) (aCons_s (eVar_s rfl) aNil_s)) rfl (beside_eq hc)) rfl
        · apply gIf_t
          · have t := tst_eq (all := all) (here := here) (c := c) (δ := δ) (env := [.val (.lst (all.map pD)), a1, a2, a3, .val (pD here), a5, a6, .own (.lst, acc.map ltr), .val (ltr c), .val (pD (lcell here c)), .val (pD (rcell here c)), a11]) rfl rfl rfl
            rw [h] at t
            exact t
          · exact gAppend_s (eVar_s rfl) rfl (by rw [List.length_map]; omega)
      · rw [show (acc ++ [c]).map ltr = acc.map ltr ++ [ltr c] by simp] at e
        exact e
    | false =>
      obtain ⟨t8, t9, t10, e⟩ := ways_for (all := all) (here := here) (δ := δ) a1 a2 a3 a5 a6 a11 ls (fun d hd => hl d (List.mem_cons_of_mem _ hd)) acc (.val (ltr c)) (.val (pD (lcell here c))) (.val (pD (rcell here c))) (by omega)
      refine ⟨t8, t9, t10, ?_⟩
      rw [List.filter_cons_of_neg (by simp [h]), List.map_cons]
      apply forD_n
      · exact rfl
      · unfold b_l_rim_2
        apply gSeq_n
        · exact gAsg_s (eCall_s (aCons_s (eVar_s rfl) (aCons_s (eVar_s rfl) aNil_s)) rfl (beside_eq hc)) rfl
        · apply gIf_f
          · have t := tst_eq (all := all) (here := here) (c := c) (δ := δ) (env := [.val (.lst (all.map pD)), a1, a2, a3, .val (pD here), a5, a6, .own (.lst, acc.map ltr), .val (ltr c), .val (pD (lcell here c)), .val (pD (rcell here c)), a11]) rfl rfl rfl
            rw [h] at t
            exact t
          · exact gNext_s
      · exact e
/-! the way around -/
def one : List Nat → Option Nat
  | [c] => some c
  | _ => none
theorem one_some {l : List Nat} {c : Nat} (h : one l = some c) : l = [c] := by
  match l, h with
  | [d], h => cases h; rfl
theorem one_none {l : List Nat} (h : one l = none) : l.length ≠ 1 := fun z => by
  obtain ⟨c, hc⟩ := List.length_eq_one_iff.mp z
  rw [hc] at h
  cases h
def rimR (all : List P2) (many : Nat) : Nat → P2 → List Nat → List P2 → Option (P2 × List Nat × List P2)
  | 0, _, _, _ => none
  | n + 1, here, w, seen => if here ∉ seen ∧ w.length < many then (one (waysM all here)).bind fun c => rimR all many n (go1 here c) (w ++ [c]) (seen ++ [here]) else some (here, w, seen)
def rimM (cs : List P2) : Option (List Nat) := match rimR cs (manyM cs cs) (manyM cs cs + 1) (begM cs) [] [] with
  | some (here, w, seen) => if seen.head? = some here ∧ w.length = manyM cs cs then some w else none
  | none => none
end Cm

namespace Cm
open PySem PySem.Spec L2 Dl
theorem enws_ltr : ((("enws" : Str).cps.toList.map fun c => (Dat.str ⟨#[c]⟩))) = [101, 110, 119, 115].map ltr := by
  rw [enws_S]
  rfl
theorem dLen_S {w : List Nat} (h : w.length < 1000000) : dLen [.str (S w)] = some (.int w.length) := by
  show (if (S w).length < 1000000 then some (Dat.int (S w).length) else none) = _
  rw [S_len, if_pos h]
abbrev rimC : ET := eAndT (eTest (eOp dNotIn (eVar 4) (eVarB 6))) (eTest (eOp dLt (eB dLen (aCons (eVar 5) aNil)) (eVar 1)))
theorem rim_loop {all : List P2} {many : Nat} {δ : List Int} (a2 a3 : Dl.Slot) (hm : many < 1000) : ∀ (n N : Nat) (here : P2) (w : List Nat) (seen : List P2) (s7 s8 s9 s10 : Dl.Slot), n ≤ N → many + 1 ≤ w.length + n → w.length ≤ many → seen.length = w.length →
    match rimR all many n here w seen with
    | some (h', w', sn') => ∃ t7 t8 t9 t10, whileD rimC b_l_rim_3 N [.val (.lst (all.map pD)), .val (.int many), a2, a3, .val (pD here), .val (.str (S w)), .own (.lst, seen.map pD), s7, s8, s9, s10, .un] δ =
        some (.nx [.val (.lst (all.map pD)), .val (.int many), a2, a3, .val (pD h'), .val (.str (S w')), .own (.lst, sn'.map pD), t7, t8, t9, t10, .un] δ)
    | none => whileD rimC b_l_rim_3 N [.val (.lst (all.map pD)), .val (.int many), a2, a3, .val (pD here), .val (.str (S w)), .own (.lst, seen.map pD), s7, s8, s9, s10, .un] δ = some (.rt .non δ)
  | 0, N, here, w, seen, s7, s8, s9, s10, _, h2, h3, _ => by omega
  | n + 1, 0, here, w, seen, s7, s8, s9, s10, h1, _, _, _ => by omega
  | n + 1, N + 1, here, w, seen, s7, s8, s9, s10, h1, h2, h3, h4 => by
    have c1 : eTest (eOp dNotIn (eVar 4) (eVarB 6)) [.val (.lst (all.map pD)), .val (.int many), a2, a3, .val (pD here), .val (.str (S w)), .own (.lst, seen.map pD), s7, s8, s9, s10, .un] δ = some (decide (here ∉ seen), δ) := eTest_s (eOp_s (eVar_s rfl) (eVarB_o rfl) (dNotIn_pr here seen))
    have c2 : eTest (eOp dLt (eB dLen (aCons (eVar 5) aNil)) (eVar 1)) [.val (.lst (all.map pD)), .val (.int many), a2, a3, .val (pD here), .val (.str (S w)), .own (.lst, seen.map pD), s7, s8, s9, s10, .un] δ = some (decide ((w.length : Int) < many), δ) := eTest_s (eOp_s (eB_s (aCons_s (eVar_s rfl) aNil_s) (dLen_S (by omega))) (eVar_s rfl) dLt_i)
    unfold rimR
    by_cases hc : here ∉ seen ∧ w.length < many
    · rw [if_pos hc]
      have ct : rimC [.val (.lst (all.map pD)), .val (.int many), a2, a3, .val (pD here), .val (.str (S w)), .own (.lst, seen.map pD), s7, s8, s9, s10, .un] δ = some (true, δ) := by
        have e1 : decide (here ∉ seen) = true := decide_eq_true hc.1
        have e2 : decide ((w.length : Int) < many) = true := decide_eq_true (by have := hc.2; omega)
        rw [e1] at c1
        rw [e2] at c2
        exact eAndT_t c1 c2
      obtain ⟨t8, t9, t10, e⟩ := ways_for (all := all) (here := here) (δ := δ) (.val (.int many)) a2 a3 (.val (.str (S w))) (.own (.lst, (seen ++ [here]).map pD)) .un [101, 110, 119, 115] (fun c hc => by unfold L4; simpa using hc) [] s8 s9 s10 (by simp)
      have e : forD (tgName 8) b_l_rim_2 ([101, 110, 119, 115].map ltr) [.val (.lst (all.map pD)), .val (.int many), a2, a3, .val (pD here), .val (.str (S w)), .own (.lst, (seen ++ [here]).map pD), .own (.lst, []), s8, s9, s10, .un] δ =
        some (.nx [.val (.lst (all.map pD)), .val (.int many), a2, a3, .val (pD here), .val (.str (S w)), .own (.lst, (seen ++ [here]).map pD), .own (.lst, (waysM all here).map ltr), t8, t9, t10, .un] δ) := by simpa [waysM] using e
      have pre : ∀ {g : Sg} {o : Out}, g [.val (.lst (all.map pD)), .val (.int many), a2, a3, .val (pD here), .val (.str (S w)), .own (.lst, (seen ++ [here]).map pD), .own (.lst, (waysM all here).map ltr), t8, t9, t10, .un] δ = some o →
          gSeq (gAppend 6 (eVar 4)) (gSeq (gOwn 7 (fLst aNil)) (gSeq (gFor (iStrD (eC (.str "enws"))) (tgName 8) b_l_rim_2) g)) [.val (.lst (all.map pD)), .val (.int many), a2, a3, .val (pD here), .val (.str (S w)), .own (.lst, seen.map pD), s7, s8, s9, s10, .un] δ = some o := fun {g o} hg => by
        apply gSeq_n
        · exact gAppend_s (eVar_s rfl) rfl (by rw [List.length_map]; omega)
        · apply gSeq_n
          · exact gOwn_s (fLst_s aNil_s (by simp))
          · apply gSeq_n
            · apply gFor_s
              · exact iStrD_s eC_s
              · rw [enws_ltr]
                have : (seen ++ [here]).map pD = seen.map pD ++ [pD here] := by simp
                rw [this] at e
                exact e
            · rw [show (seen ++ [here]).map pD = seen.map pD ++ [pD here] by simp] at hg
              exact hg
      have lw : (waysM all here).length ≤ 4 := List.length_filter_le _ _
      have tst : eTest (eOp dNe (eB dLen (aCons (eVarB 7) aNil)) (eC (.int 1))) [.val (.lst (all.map pD)), .val (.int many), a2, a3, .val (pD here), .val (.str (S w)), .own (.lst, (seen ++ [here]).map pD), .own (.lst, (waysM all here).map ltr), t8, t9, t10, .un] δ = some (!decide (((waysM all here).length : Int) = 1), δ) := by
        have := eTest_s (eOp_s (δ := δ) (env := [.val (.lst (all.map pD)), .val (.int many), a2, a3, .val (pD here), .val (.str (S w)), .own (.lst, (seen ++ [here]).map pD), .own (.lst, (waysM all here).map ltr), t8, t9, t10, .un]) (eB_s (aCons_s (eVarB_o (i := 7) rfl) aNil_s) (dLen_l (by rw [List.length_map]; omega))) eC_s (dNe_i (j := 1)))
        rw [List.length_map] at this
        exact this
      cases ho : one (waysM all here) with
      | some c =>
        have hw := one_some ho
        have hc4 : L4 c := ways_L4 (all := all) (p := here) c (by rw [hw]; exact List.mem_cons_self)
        rw [hw] at tst pre
        rw [Option.bind_some]
        have ih := rim_loop (all := all) (many := many) (δ := δ) a2 a3 hm n N (go1 here c) (w ++ [c]) (seen ++ [here]) (.own (.lst, [c].map ltr)) t8 t9 t10 (by omega) (by simp; omega) (by simp; omega) (by simp [h4])
        have body : b_l_rim_3 [.val (.lst (all.map pD)), .val (.int many), a2, a3, .val (pD here), .val (.str (S w)), .own (.lst, seen.map pD), s7, s8, s9, s10, .un] δ =
            some (.nx [.val (.lst (all.map pD)), .val (.int many), a2, a3, .val (pD (go1 here c)), .val (.str (S (w ++ [c]))), .own (.lst, (seen ++ [here]).map pD), .own (.lst, [c].map ltr), t8, t9, t10, .un] δ) := by
          unfold b_l_rim_3
          apply pre
          apply gSeq_n
          · apply gIf_f
            · exact tst
            · exact gNext_s
          · apply gSeq_n
            · exact gAsg_s (eOp_s (z := .str (S (w ++ [c]))) (eVar_s rfl) (eOp_s (z := ltr c) (eVarB_o rfl) eC_s rfl) (by rw [dAdd_s (by rw [S_len, S_len]; simp; omega), S_app])) rfl
            · exact gAsg_s (eCall_s (aCons_s (eVar_s rfl) (aCons_s (eOp_s (z := ltr c) (eVarB_o rfl) eC_s rfl) aNil_s)) rfl (next_eq hc4)) rfl
        cases hr : rimR all many n (go1 here c) (w ++ [c]) (seen ++ [here]) with
        | none =>
          rw [hr] at ih
          exact while_t ct body ih
        | some r =>
          obtain ⟨h', w', sn'⟩ := r
          rw [hr] at ih
          obtain ⟨u7, u8, u9, u10, ih⟩ := ih
          exact ⟨u7, u8, u9, u10, while_t ct body ih⟩
      | none =>
        have hl := one_none ho
        rw [Option.bind_none]
        refine while_r ct ?_
        unfold b_l_rim_3
        apply pre
        apply gSeq_r
        apply gIf_t
        · rw [tst]
          have : decide (((waysM all here).length : Int) = 1) = false := decide_eq_false (by omega)
          rw [this]
          rfl
        · exact gRet_s eC_s
    · rw [if_neg hc]
      refine ⟨s7, s8, s9, s10, while_f ?_⟩
      by_cases h5 : here ∉ seen
      · have e1 : decide (here ∉ seen) = true := decide_eq_true h5
        have e2 : decide ((w.length : Int) < many) = false := decide_eq_false (by intro z; exact hc ⟨h5, by omega⟩)
        rw [e1] at c1
        rw [e2] at c2
        exact eAndT_t c1 c2
      · have e1 : decide (here ∉ seen) = false := decide_eq_false h5
        rw [e1] at c1
        exact eAndT_f c1
end Cm

namespace Cm
open PySem PySem.Spec L2 Dl
theorem rimR_spec {all : List P2} {many : Nat} : ∀ {n : Nat} {here : P2} {w : List Nat} {seen : List P2} {h' : P2} {w' : List Nat} {sn' : List P2}, rimR all many n here w seen = some (h', w', sn') →
    (seen.length = w.length → sn'.length = w'.length) ∧ ¬ (h' ∉ sn' ∧ w'.length < many) ∧ ((∀ c ∈ w, L4 c) → ∀ c ∈ w', L4 c) ∧ (w.length ≤ many → w'.length ≤ many)
  | 0, _, _, _, _, _, _, e => by cases e
  | n + 1, here, w, seen, h', w', sn', e => by
    unfold rimR at e
    by_cases hc : here ∉ seen ∧ w.length < many
    · rw [if_pos hc] at e
      cases ho : one (waysM all here) with
      | none => rw [ho] at e; cases e
      | some c =>
        rw [ho] at e
        have ⟨a1, a2, a3, a4⟩ := rimR_spec (show rimR all many n (go1 here c) (w ++ [c]) (seen ++ [here]) = some (h', w', sn') from e)
        have hc4 : L4 c := ways_L4 (all := all) (p := here) c (by rw [one_some ho]; exact List.mem_cons_self)
        refine ⟨fun z => a1 (by simp [z]), a2, fun z => a3 fun d hd => ?_, fun z => a4 (by have := hc.2; simp; omega)⟩
        rcases List.mem_append.mp hd with hd | hd
        · exact z d hd
        · rw [List.mem_singleton.mp hd]; exact hc4
    · rw [if_neg hc] at e
      cases e
      exact ⟨id, hc, id, id⟩
theorem out_le_many {all : List P2} : ∀ {ds : List P2} {p : P2}, p ∈ ds → outM all p ≤ manyM all ds
  | d :: ds, p, h => by
    simp only [manyM]
    rcases List.mem_cons.mp h with rfl | h
    · omega
    · have := out_le_many (all := all) h
      omega
theorem many_pos {cs : List P2} (h : cs ≠ []) : 0 < manyM cs cs := by
  have h1 := out_le_many (all := cs) (begM_mem h)
  have h2 : 0 < outM cs (begM cs) := by
    refine List.length_pos_of_mem (a := ((begM cs).1, (begM cs).2 - 1)) (List.mem_filter.mpr ⟨by simp [nearM], decide_eq_true fun z => ?_⟩)
    have := low_le _ z
    simp at this
    omega
  omega
theorem dNe_pr (p q : P2) : dNe (pD p) (pD q) = some (.bl (!decide (p = q))) := by
  show (eqD (pD p) (pD q)).map _ = _
  rw [eqD_pr]
  rfl
theorem rim_eq {cs : List P2} {δ : List Int} (h : cs ≠ []) (hl : cs.length < 200) : G_l_rim [.lst (cs.map pD)] δ = some (match rimM cs with | none => .non | some w => .str (S w), δ) := by
  have hm := manyM_le cs cs
  have hp := many_pos h
  refine runG_r ?_
  show g_l_rim [.val (.lst (cs.map pD)), .un, .un, .un, .un, .un, .un, .un, .un, .un, .un, .un] δ = _
  unfold g_l_rim
  obtain ⟨t2, t3, e1⟩ := many_for (all := cs) (δ := δ) .un .un .un .un .un .un .un cs 0 .un .un
  rw [Nat.zero_add] at e1
  have lp := rim_loop (all := cs) (many := manyM cs cs) (δ := δ) t2 t3 (by omega) (manyM cs cs + 1) 100000 (begM cs) [] [] .un .un .un .un (by omega) (by simp) (by simp) rfl
  apply gSeq_n
  · exact gAsg_s eC_s rfl
  apply gSeq_n
  · apply gFor_s
    · exact iLst_s (eVar_s rfl)
    · exact e1
  apply gSeq_n
  · exact gAsg_s (eCall_s (aCons_s (eVar_s rfl) aNil_s) rfl (begin_eq h (by omega))) rfl
  apply gSeq_n
  · exact gAsg_s eC_s rfl
  apply gSeq_n
  · exact gOwn_s (fLst_s aNil_s (by simp))
  rw [empty_S]
  cases hr : rimR cs (manyM cs cs) (manyM cs cs + 1) (begM cs) [] [] with
  | none =>
    rw [hr] at lp
    have hM : rimM cs = none := by unfold rimM; rw [hr]
    rw [hM]
    exact gSeq_r lp
  | some r =>
    obtain ⟨h', w', sn'⟩ := r
    rw [hr] at lp
    obtain ⟨u7, u8, u9, u10, lp⟩ := lp
    obtain ⟨a1, a2, a3, a4⟩ := rimR_spec hr
    have a1 := a1 rfl
    have a4 := a4 (Nat.zero_le _)
    obtain ⟨s0, sn, rfl⟩ : ∃ s0 sn, sn' = s0 :: sn := by
      cases sn' with
      | nil => exact absurd ⟨by simp, by rw [← a1]; simpa using hp⟩ a2
      | cons s0 sn => exact ⟨s0, sn, rfl⟩
    apply gSeq_n
    · exact lp
    have t1 := eTest_s (eOp_s (δ := δ) (env := [.val (.lst (cs.map pD)), .val (.int (manyM cs cs)), t2, t3, .val (pD h'), .val (.str (S w')), .own (.lst, (s0 :: sn).map pD), u7, u8, u9, u10, .un]) (eVar_s (i := 4) rfl) (eOp_s (F := dIx) (x := .lst ((s0 :: sn).map pD)) (y := .int 0) (z := pD s0) (eVarB_o (i := 6) rfl) eC_s (atI_nat' (xs := (s0 :: sn).map pD) (j := 0) rfl rfl)) (dNe_pr h' s0))
    have t2' := eTest_s (eOp_s (δ := δ) (env := [.val (.lst (cs.map pD)), .val (.int (manyM cs cs)), t2, t3, .val (pD h'), .val (.str (S w')), .own (.lst, (s0 :: sn).map pD), u7, u8, u9, u10, .un]) (eB_s (aCons_s (eVar_s (i := 5) rfl) aNil_s) (dLen_S (w := w') (by omega))) (eVar_s (i := 1) rfl) dNe_i)
    by_cases hb : h' = s0
    · rw [decide_eq_true hb] at t1
      by_cases hw : w'.length = manyM cs cs
      · have : decide ((w'.length : Int) = ((manyM cs cs : Nat) : Int)) = true := decide_eq_true (by omega)
        rw [this] at t2'
        have hM : rimM cs = some w' := by
          unfold rimM
          rw [hr]
          exact if_pos ⟨by rw [hb]; rfl, hw⟩
        rw [hM]
        apply gSeq_n
        · apply gIf_f
          · exact eOrT_f t1 t2'
          · exact gNext_s
        · exact gRet_s (eVar_s rfl)
      · have : decide ((w'.length : Int) = ((manyM cs cs : Nat) : Int)) = false := decide_eq_false (by omega)
        rw [this] at t2'
        have hM : rimM cs = none := by
          unfold rimM
          rw [hr]
          exact if_neg fun z => hw z.2
        rw [hM]
        apply gSeq_r
        apply gIf_t
        · exact eOrT_f t1 t2'
        · exact gRet_s eC_s
    · rw [decide_eq_false hb] at t1
      have hM : rimM cs = none := by
        unfold rimM
        rw [hr]
        exact if_neg fun z => hb (Option.some.inj z.1).symm
      rw [hM]
      apply gSeq_r
      apply gIf_t
      · exact eOrT_t t1
      · exact gRet_s eC_s
end Cm

/-! The cells that the laws draw: what they are, whatever is drawn. -/
namespace Cm
open PySem PySem.Spec L2 Dl
def OnB (p : P2) : Prop := 0 ≤ p.1 ∧ p.1 < 12 ∧ 0 ≤ p.2 ∧ p.2 < 12
structure Grw (cs : List P2) : Prop where
  ne : cs ≠ []
  nd : cs.Nodup
  ob : ∀ p ∈ cs, OnB p
  rm : rimM cs ≠ none ∨ cs.length = 1
theorem chain01 {env : Ev} {δ : List Int} {i : Nat} {q : P2} (k : Int) (z : Int) (h : env[i]? = some (.val (pD q))) (hz : dIx (pD q) (.int k) = some (.int z)) : eTest (eChain dLe dLt (eC (.int 0)) (eOp dIx (eVar i) (eC (.int k))) (eC (.int 12))) env δ = some (decide (0 ≤ z ∧ z < 12), δ) := by
  by_cases h0 : 0 ≤ z
  · have := eTest_s (k := decide (z < 12)) (eChain_t (env := env) (δ := δ) (F := dLe) (Gg := dLt) (f := eC (.int 0)) (g := eOp dIx (eVar i) (eC (.int k))) (h := eC (.int 12)) eC_s (eOp_s (eVar_s h) eC_s hz) (by rw [dLe_i, decide_eq_true h0]) eC_s dLt_i)
    rw [this]
    by_cases h1 : z < 12 <;> simp [h0, h1]
  · have := eTest_s (k := false) (eChain_f (env := env) (δ := δ) (F := dLe) (Gg := dLt) (f := eC (.int 0)) (g := eOp dIx (eVar i) (eC (.int k))) (h := eC (.int 12)) eC_s (eOp_s (eVar_s h) eC_s hz) (by rw [dLe_i, decide_eq_false h0]))
    rw [this]
    simp [h0]
theorem notN_rim {env : Ev} {δ : List Int} {f : E} {cs : List P2} (h : f env δ = some (.lst (cs.map pD), δ)) (h1 : cs ≠ []) (h2 : cs.length < 200) : eTest (eOp dNotN (eCall G_l_rim (["_law_cells_here"] : List Str).length (aCons f aNil)) (eC .non)) env δ = some ((rimM cs).isSome, δ) := by
  have e := eCall_s (n := (["_law_cells_here"] : List Str).length) (aCons_s h aNil_s) rfl (rim_eq (cs := cs) (δ := δ) h1 h2)
  cases hr : rimM cs with
  | none =>
    rw [hr] at e
    exact eTest_s (eOp_s e eC_s rfl)
  | some w =>
    rw [hr] at e
    exact eTest_s (eOp_s e eC_s rfl)
abbrev growC : ET := eAndT (eTest (eOp dNotIn (eVar 7) (eVarB 3))) (eAndT (eTest (eChain dLe dLt (eC (.int 0)) (eOp dIx (eVar 7) (eC (.int 0))) (eC (.int 12)))) (eAndT (eTest (eChain dLe dLt (eC (.int 0)) (eOp dIx (eVar 7) (eC (.int 1))) (eC (.int 12)))) (eTest (eOp dNotN (eCall G_l_rim (["_law_cells_here"] : List Str).length (aCons (eOp dAdd (eVarB 3) (eLst (aCons (eVar 7) aNil))) aNil)) (eC .non)))))
theorem grow_test {env : Ev} {δ : List Int} {cs : List P2} {q : P2} (h3 : env[3]? = some (.own (.lst, cs.map pD))) (h7 : env[7]? = some (.val (pD q))) (hl : cs.length < 100) : ∃ b, growC env δ = some (b, δ) ∧ (b = true → q ∉ cs ∧ OnB q ∧ rimM (cs ++ [q]) ≠ none) := by
  have t1 := eTest_s (eOp_s (δ := δ) (eVar_s h7) (eVarB_o h3) (dNotIn_pr q cs))
  have t2 := chain01 (δ := δ) 0 q.1 h7 rfl
  have t3 := chain01 (δ := δ) 1 q.2 h7 rfl
  have t4 := notN_rim (env := env) (δ := δ) (f := eOp dAdd (eVarB 3) (eLst (aCons (eVar 7) aNil))) (cs := cs ++ [q]) (by
    rw [show (cs ++ [q]).map pD = cs.map pD ++ [pD q] by simp]
    exact eOp_s (eVarB_o h3) (eLst_s (aCons_s (eVar_s h7) aNil_s) (by simp)) (dAdd_l (by simp; omega))) (by simp) (by simp; omega)
  by_cases a1 : q ∉ cs
  · rw [decide_eq_true a1] at t1
    by_cases a2 : 0 ≤ q.1 ∧ q.1 < 12
    · rw [decide_eq_true a2] at t2
      by_cases a3 : 0 ≤ q.2 ∧ q.2 < 12
      · rw [decide_eq_true a3] at t3
        refine ⟨_, eAndT_t t1 (eAndT_t t2 (eAndT_t t3 t4)), fun hb => ⟨a1, ⟨a2.1, a2.2, a3.1, a3.2⟩, fun z => ?_⟩⟩
        rw [z] at hb
        cases hb
      · rw [decide_eq_false a3] at t3
        exact ⟨false, eAndT_t t1 (eAndT_t t2 (eAndT_f t3)), fun z => by cases z⟩
    · rw [decide_eq_false a2] at t2
      exact ⟨false, eAndT_t t1 (eAndT_f t2), fun z => by cases z⟩
  · rw [decide_eq_false a1] at t1
    exact ⟨false, eAndT_f t1, fun z => by cases z⟩
def nb4 (p : P2) : List P2 := [(p.1 + 1, p.2), (p.1, p.2 + 1), (p.1 - 1, p.2), (p.1, p.2 - 1)]
theorem many_app (all : List P2) : ∀ (cs ds : List P2), manyM all (cs ++ ds) = manyM all cs + manyM all ds
  | [], ds => (Nat.zero_add _).symm
  | p :: cs, ds => by
    show outM all p + manyM all (cs ++ ds) = outM all p + manyM all cs + manyM all ds
    rw [many_app all cs ds]
    omega
theorem filter_lt {f g : P2 → Bool} {x : P2} : ∀ {l : List P2}, (∀ y ∈ l, g y = true → f y = true) → x ∈ l → f x = true → g x = false → (l.filter g).length < (l.filter f).length
  | y :: l, h, hx, fx, gx => by
    have le : (l.filter g).length ≤ (l.filter f).length := by
      have := List.countP_mono_left (l := l) (p := g) (q := f) fun z hz => h z (List.mem_cons_of_mem _ hz)
      rwa [List.countP_eq_length_filter, List.countP_eq_length_filter] at this
    rcases List.mem_cons.mp hx with rfl | hx
    · rw [List.filter_cons_of_pos fx, List.filter_cons_of_neg (by rw [gx]; exact Bool.false_ne_true), List.length_cons]
      omega
    · have := filter_lt (fun z hz => h z (List.mem_cons_of_mem _ hz)) hx fx gx
      by_cases hg : g y = true
      · rw [List.filter_cons_of_pos hg, List.filter_cons_of_pos (h y List.mem_cons_self hg), List.length_cons, List.length_cons]
        omega
      · rw [List.filter_cons_of_neg hg]
        by_cases hf : f y = true
        · rw [List.filter_cons_of_pos hf, List.length_cons]
          omega
        · rw [List.filter_cons_of_neg hf]
          exact this
theorem out_le {all : List P2} {q : P2} (r : P2) : outM (all ++ [q]) r ≤ outM all r := by
  unfold outM
  have := List.countP_mono_left (l := nearM r) (p := fun z => decide (z ∉ all ++ [q])) (q := fun z => decide (z ∉ all)) fun z _ hz => decide_eq_true fun m => (of_decide_eq_true hz) (List.mem_append_left _ m)
  rwa [List.countP_eq_length_filter, List.countP_eq_length_filter] at this
theorem many_le {all : List P2} {q : P2} : ∀ cs : List P2, manyM (all ++ [q]) cs ≤ manyM all cs
  | [] => Nat.le_refl _
  | r :: cs => Nat.add_le_add (out_le r) (many_le cs)
theorem many_lt {all : List P2} {q p : P2} (hq : q ∈ nearM p) (hn : q ∉ all) : ∀ {cs : List P2}, p ∈ cs → manyM (all ++ [q]) cs < manyM all cs
  | r :: cs, h => by
    show outM (all ++ [q]) r + manyM (all ++ [q]) cs < outM all r + manyM all cs
    rcases List.mem_cons.mp h with rfl | h
    · have : outM (all ++ [q]) p < outM all p := filter_lt (fun z _ hz => decide_eq_true fun m => (of_decide_eq_true hz) (List.mem_append_left _ m)) hq (decide_eq_true hn) (decide_eq_false fun z => z (by simp))
      have := many_le (all := all) (q := q) cs
      omega
    · have := many_lt hq hn h
      have := out_le (all := all) (q := q) r
      omega
/-- one more cell beside one of them: at most two more sides -/
theorem many_more {cs : List P2} {p q : P2} (hp : p ∈ cs) (hq : q ∈ nearM p) (hn : q ∉ cs) : manyM (cs ++ [q]) (cs ++ [q]) ≤ manyM cs cs + 2 := by
  have h1 := many_lt hq hn hp
  have hb : p ∈ nearM q := by
    unfold nearM at hq ⊢
    simp only [List.mem_cons, List.not_mem_nil, or_false] at hq ⊢
    rcases hq with rfl | rfl | rfl | rfl
    · exact .inr (.inl (Prod.ext (by show p.1 = p.1 + 1 - 1; omega) rfl))
    · exact .inl (Prod.ext (by show p.1 = p.1 - 1 + 1; omega) rfl)
    · exact .inr (.inr (.inr (Prod.ext rfl (by show p.2 = p.2 + 1 - 1; omega))))
    · exact .inr (.inr (.inl (Prod.ext rfl (by show p.2 = p.2 - 1 + 1; omega))))
  have h2 : outM (cs ++ [q]) q < 4 := by
    have : outM (cs ++ [q]) q < ((nearM q).filter fun _ => true).length := filter_lt (fun _ _ _ => rfl) hb rfl (decide_eq_false fun z => z (List.mem_append_left _ hp))
    rw [List.filter_eq_self.mpr fun _ _ => rfl] at this
    exact this
  rw [many_app]
  show manyM (cs ++ [q]) cs + (outM (cs ++ [q]) q + 0) ≤ _
  omega
theorem nb4_near {p q : P2} (h : q ∈ nb4 p) : q ∈ nearM p := by
  unfold nb4 at h
  unfold nearM
  simp only [List.mem_cons, List.not_mem_nil, or_false] at h ⊢
  rcases h with h | h | h | h
  · exact .inl h
  · exact .inr (.inr (.inl h))
  · exact .inr (.inl h)
  · exact .inr (.inr (.inr h))
theorem grown_for {pl : Dat} {m : Int} : ∀ (xs : List Dat) (cs : List P2) (δ : List Int) (s4 s5 s6 s7 : Dl.Slot), Grw cs → manyM cs cs ≤ 2 * cs.length + 2 → cs.length + xs.length < 100 → 2 ≤ δ.length →
    ∃ cs' δ' t4 t5 t6 t7, forD (tgName 4) b_l_grown_1 xs [.val .dice, .val (.int m), .val pl, .own (.lst, cs.map pD), s4, s5, s6, s7] δ = some (.nx [.val .dice, .val (.int m), .val pl, .own (.lst, cs'.map pD), t4, t5, t6, t7] δ') ∧ Grw cs' ∧ manyM cs' cs' ≤ 2 * cs'.length + 2 ∧ cs'.length ≤ cs.length + xs.length ∧ 2 ≤ δ'.length
  | [], cs, δ, s4, s5, s6, s7, g, gp, _, hd => ⟨cs, δ, s4, s5, s6, s7, rfl, g, gp, by simp, hd⟩
  | x :: xs, cs, δ, s4, s5, s6, s7, g, gp, hl, hd => by
    have hl' : cs.length + (xs.length + 1) < 100 := by simpa using hl
    have hpos : 0 < cs.length := List.length_pos_iff.mpr g.ne
    have o1 := off_nn (m := (cs.length : Int)) (δ := δ) (by omega)
    have d1 := off_len (m := (cs.length : Int)) hd
    have o2 := off_nn (m := 4) (δ := (offM (cs.length : Int) δ).2) (by omega)
    have d2 := off_len (m := 4) d1
    have hi : (offM (cs.length : Int) δ).1.toNat < cs.length := by omega
    have hp : cs[(offM (cs.length : Int) δ).1.toNat]? = some cs[(offM (cs.length : Int) δ).1.toNat] := List.getElem?_eq_getElem hi
    generalize cs[(offM (cs.length : Int) δ).1.toNat] = p at hp
    have hj : (offM 4 (offM (cs.length : Int) δ).2).1.toNat < (nb4 p).length := by show _ < 4; omega
    have hq : (nb4 p)[(offM 4 (offM (cs.length : Int) δ).2).1.toNat]? = some (nb4 p)[(offM 4 (offM (cs.length : Int) δ).2).1.toNat] := List.getElem?_eq_getElem hj
    generalize (nb4 p)[(offM 4 (offM (cs.length : Int) δ).2).1.toNat] = q at hq
    have body : ∀ (o : Out), gIf growC (gAppend 3 (eVar 7)) gNext [.val .dice, .val (.int m), .val pl, .own (.lst, cs.map pD), .val x, .val (.int p.1), .val (.int p.2), .val (pD q)] (offM 4 (offM (cs.length : Int) δ).2).2 = some o → b_l_grown_1 [.val .dice, .val (.int m), .val pl, .own (.lst, cs.map pD), .val x, s5, s6, s7] δ = some o := fun o ho => by
      unfold b_l_grown_1
      apply gSeq_n
      · apply gAsg_s (x := pD p)
        · apply eOp_s
          · exact eVarB_o rfl
          · exact call_off rfl (eB_s (aCons_s (eVarB_o rfl) aNil_s) (by rw [dLen_l (by rw [List.length_map]; omega), List.length_map])) (by omega) (by omega) hd
          · exact atI_nat' (j := (offM (cs.length : Int) δ).1.toNat) (by omega) (by rw [List.getElem?_map, hp]; rfl)
        · exact rfl
      · apply gSeq_n
        · apply gAsg_s (x := pD q)
          · apply eOp_s (x := .lst ((nb4 p).map pD))
            · exact eLst_s (aCons_s (eTup_s (aCons_s (eOp_s (eVar_s rfl) eC_s dAdd_i) (aCons_s (eVar_s rfl) aNil_s)) (by simp)) (aCons_s (eTup_s (aCons_s (eVar_s rfl) (aCons_s (eOp_s (eVar_s rfl) eC_s dAdd_i) aNil_s)) (by simp)) (aCons_s (eTup_s (aCons_s (eOp_s (eVar_s rfl) eC_s dSub_i) (aCons_s (eVar_s rfl) aNil_s)) (by simp)) (aCons_s (eTup_s (aCons_s (eVar_s rfl) (aCons_s (eOp_s (eVar_s rfl) eC_s dSub_i) aNil_s)) (by simp)) aNil_s)))) (by show (4 : Nat) < 1000000; decide)
            · exact call_off rfl eC_s (by omega) (by omega) d1
            · exact atI_nat' (j := (offM 4 (offM (cs.length : Int) δ).2).1.toNat) (by omega) (by rw [List.getElem?_map, hq]; rfl)
          · exact rfl
        · exact ho
    obtain ⟨b, hb, hG⟩ := grow_test (env := [.val .dice, .val (.int m), .val pl, .own (.lst, cs.map pD), .val x, .val (.int p.1), .val (.int p.2), .val (pD q)]) (δ := (offM 4 (offM (cs.length : Int) δ).2).2) (cs := cs) (q := q) rfl rfl (by omega)
    cases b with
    | false =>
      obtain ⟨cs', δ', t4, t5, t6, t7, e, g', gp', l', d'⟩ := grown_for (pl := pl) (m := m) xs cs (offM 4 (offM (cs.length : Int) δ).2).2 (.val x) (.val (.int p.1)) (.val (.int p.2)) (.val (pD q)) g gp (by omega) d2
      exact ⟨cs', δ', t4, t5, t6, t7, forD_n rfl (body _ (gIf_f hb gNext_s)) e, g', gp', by simp; omega, d'⟩
    | true =>
      obtain ⟨h1, h2, h3⟩ := hG rfl
      have g2 : Grw (cs ++ [q]) := ⟨by simp, List.nodup_append.mpr ⟨g.nd, by simp, fun a ha b hb => by rw [List.mem_singleton.mp hb]; exact fun z => h1 (z ▸ ha)⟩, fun r hr => by
        rcases List.mem_append.mp hr with hr | hr
        · exact g.ob r hr
        · rw [List.mem_singleton.mp hr]; exact h2, .inl h3⟩
      have gp2 : manyM (cs ++ [q]) (cs ++ [q]) ≤ 2 * (cs ++ [q]).length + 2 := by
        have := many_more (List.mem_of_getElem? hp) (nb4_near (List.mem_of_getElem? hq)) h1
        rw [List.length_append]
        simp
        omega
      obtain ⟨cs', δ', t4, t5, t6, t7, e, g', gp', l', d'⟩ := grown_for (pl := pl) (m := m) xs (cs ++ [q]) (offM 4 (offM (cs.length : Int) δ).2).2 (.val x) (.val (.int p.1)) (.val (.int p.2)) (.val (pD q)) g2 gp2 (by simp; omega) d2
      refine ⟨cs', δ', t4, t5, t6, t7, forD_n rfl (body _ (gIf_t hb (gAppend_s (eVar_s rfl) rfl (by rw [List.length_map]; omega)))) ?_, g', gp', by simp at l' ⊢; omega, d'⟩
      rw [show (cs ++ [q]).map pD = cs.map pD ++ [pD q] by simp] at e
      exact e
theorem grown_eq {most : Int} {p : P2} {δ : List Int} (h0 : 0 < most) (h1 : most < 60) (hp : OnB p) (hd : 2 ≤ δ.length) : ∃ cs δ', G_l_grown [.dice, .int most, pD p] δ = some (.lst (cs.map pD), δ') ∧ Grw cs ∧ manyM cs cs ≤ 2 * cs.length + 2 ∧ (cs.length : Int) ≤ most ∧ 2 ≤ δ'.length := by
  have o1 := off_nn (m := most) (δ := δ) h0
  have d1 := off_len (m := most) hd
  have hlen : (rangeD 0 (offM most δ).1).length = (offM most δ).1.toNat := by unfold rangeD; rw [List.length_map, List.length_range, Int.sub_zero]
  obtain ⟨cs', δ', t4, t5, t6, t7, e, g', gp', l', d'⟩ := grown_for (pl := pD p) (m := most) (rangeD 0 (offM most δ).1) [p] (offM most δ).2 .un .un .un .un ⟨by simp, by simp, fun r hr => by rw [List.mem_singleton.mp hr]; exact hp, .inr rfl⟩ (manyM_le [p] [p]) (by rw [hlen]; simp; omega) d1
  refine ⟨cs', δ', ?_, g', gp', by rw [hlen] at l'; simp at l'; omega, d'⟩
  refine runG_r ?_
  show g_l_grown [.val .dice, .val (.int most), .val (pD p), .un, .un, .un, .un, .un] δ = _
  unfold g_l_grown
  apply gSeq_n
  · exact gOwn_s (fLst_s (aCons_s (eVar_s rfl) aNil_s) (by simp))
  · apply gSeq_n
    · apply gFor_s
      · apply iR1_s
        · exact aCons_s (call_off rfl (eVar_s rfl) h0 (by omega) hd) aNil_s
        · unfold bnd
          simp only [Bool.and_eq_true, decide_eq_true_eq]
          omega
      · exact e
    · exact gRetOwn_s rfl
end Cm

namespace Cm
open PySem PySem.Spec L2 Dl
/-- one column of a block -/
def colM (x y : Int) (h : Nat) (k : Int) : List P2 := (List.range h).map fun (j : Nat) => (x + k, y + (j : Int))
def blockM (x y : Int) (h : Nat) : List Int → List P2
  | [] => []
  | k :: ks => colM x y h k ++ blockM x y h ks
theorem colM_len {x y : Int} {h : Nat} {k : Int} : (colM x y h k).length = h := by simp [colM]
theorem blockM_len {x y : Int} {h : Nat} : ∀ ks, (blockM x y h ks).length = h * ks.length
  | [] => by simp [blockM]
  | k :: ks => by
    simp only [blockM, List.length_append, colM_len, blockM_len ks, List.length_cons, Nat.mul_succ]
    omega
theorem range_ints (n : Int) : rangeD 0 n = ((List.range n.toNat).map fun (i : Nat) => (i : Int)).map .int := by
  unfold rangeD
  rw [List.map_map, Int.sub_zero]
  refine List.map_congr_left fun i _ => ?_
  show Dat.int (0 + (i : Int)) = Dat.int (i : Int)
  rw [Int.zero_add]
theorem block_for {x y w : Int} {h : Nat} {δ : List Int} (hh : h < 1000) : ∀ (ks : List Int) (acc : List P2) (s5 : Dl.Slot), (∀ l, s5 ≠ .own l) → acc.length + h * ks.length < 100000 →
    ∃ t5, forD (tgName 5) b_l_block_1 (ks.map .int) [.val (.int x), .val (.int y), .val (.int w), .val (.int h), .val (.lst (acc.map pD)), s5, .un] δ = some (.nx [.val (.int x), .val (.int y), .val (.int w), .val (.int h), .val (.lst ((acc ++ blockM x y h ks).map pD)), t5, .un] δ)
  | [], acc, s5, _, _ => ⟨s5, by simp [forD, blockM]⟩
  | k :: ks, acc, s5, hs, hl => by
    have e0 : h * (ks.length + 1) = h * ks.length + h := Nat.mul_succ _ _
    have hl : acc.length + h * (ks.length + 1) < 100000 := by simpa using hl
    obtain ⟨t5, e⟩ := block_for (x := x) (y := y) (w := w) (δ := δ) hh ks (acc ++ colM x y h k) (.val (.int k)) (fun l z => by cases z) (by rw [List.length_append, colM_len]; omega)
    refine ⟨t5, ?_⟩
    rw [List.map_cons]
    apply forD_n
    · exact rfl
    · unfold b_l_block_1
      apply gAsg_s (x := .lst ((acc ++ colM x y h k).map pD))
      · apply eOp_s
        · exact eVar_s rfl
        · apply eF_s (xs := (colM x y h k).map pD)
          apply fLc_s
          · apply iR1_s
            · exact aCons_s (eVar_s rfl) aNil_s
            · unfold bnd
              simp only [Bool.and_eq_true, decide_eq_true_eq]
              omega
          · unfold rangeD
            rw [List.length_map, List.length_range]
            omega
          · exact rfl
          · rw [range_ints, Int.toNat_natCast]
            have := lc_map (gd := tgName 6) (ft := eYes) (fe := eTup (aCons (eOp dAdd (eVar 0) (eVar 5)) (aCons (eOp dAdd (eVar 1) (eVar 6)) aNil))) (env := [.val (.int x), .val (.int y), .val (.int w), .val (.int h), .val (.lst (acc.map pD)), .val (.int k), .un]) (δ := δ) (φ := fun d => match d with | .int j => pD (x + k, y + j) | _ => .non) (xs := ((List.range h).map fun (i : Nat) => (i : Int)).map .int) fun d hd => by
              obtain ⟨j, _, rfl⟩ := List.mem_map.mp hd
              exact ⟨_, rfl, eYes_s, eTup_s (aCons_s (eOp_s (eVar_s rfl) (eVar_s rfl) dAdd_i) (aCons_s (eOp_s (eVar_s rfl) (eVar_s rfl) dAdd_i) aNil_s)) (by simp)⟩
            refine this.trans ?_
            rw [List.map_map, List.map_map]
            unfold colM
            rw [List.map_map]
            rfl
        · rw [List.map_append]
          exact dAdd_l (by rw [List.length_map, List.length_map, colM_len]; omega)
      · exact rfl
    · rw [List.append_assoc] at e
      exact e
theorem block_eq {x y : Int} {w h : Nat} {δ : List Int} (hw : w < 100) (hh : h < 100) : G_l_block [.int x, .int y, .int w, .int h] δ = some (.lst ((blockM x y h ((List.range w).map fun (i : Nat) => (i : Int))).map pD), δ) := by
  refine runG_r ?_
  show g_l_block [.val (.int x), .val (.int y), .val (.int w), .val (.int h), .un, .un, .un] δ = _
  unfold g_l_block
  have hz : h * ((List.range w).map fun (i : Nat) => (i : Int)).length ≤ 100 * 100 := by
    rw [List.length_map, List.length_range]
    exact Nat.mul_le_mul (by omega) (by omega)
  obtain ⟨t5, e⟩ := block_for (x := x) (y := y) (w := w) (h := h) (δ := δ) (by omega) ((List.range w).map fun (i : Nat) => (i : Int)) [] .un (fun l z => by cases z) (by simp only [List.length_nil]; omega)
  apply gSeq_n
  · exact gAsg_s (eLst_s aNil_s (by simp)) rfl
  · apply gSeq_n
    · apply gFor_s
      · apply iR1_s
        · exact aCons_s (eVar_s rfl) aNil_s
        · unfold bnd
          simp only [Bool.and_eq_true, decide_eq_true_eq]
          omega
      · rw [range_ints, Int.toNat_natCast]
        exact e
    · exact gRet_s (eVar_s rfl)
end Cm

namespace Cm
open PySem PySem.Spec L2 Dl
/-! Blocks as cells. -/
def blkM (p : P2) (w h : Nat) : List P2 := blockM p.1 p.2 h ((List.range w).map fun (i : Nat) => (i : Int))
theorem mem_col {x y k : Int} {h : Nat} {q : P2} : q ∈ colM x y h k ↔ q.1 = x + k ∧ y ≤ q.2 ∧ q.2 < y + h := by
  unfold colM
  rw [List.mem_map]
  constructor
  · rintro ⟨j, hj, rfl⟩
    have := List.mem_range.mp hj
    exact ⟨rfl, by show y ≤ y + (j : Int); omega, by show y + (j : Int) < y + h; omega⟩
  · rintro ⟨h1, h2, h3⟩
    exact ⟨(q.2 - y).toNat, List.mem_range.mpr (by omega), Prod.ext h1.symm (by show y + ((q.2 - y).toNat : Int) = q.2; omega)⟩
theorem mem_block {x y : Int} {h : Nat} {q : P2} : ∀ {ks : List Int}, q ∈ blockM x y h ks ↔ (q.1 - x) ∈ ks ∧ y ≤ q.2 ∧ q.2 < y + h
  | [] => by simp [blockM]
  | k :: ks => by
    unfold blockM
    rw [List.mem_append, mem_col, mem_block, List.mem_cons]
    constructor
    · rintro (⟨a, b⟩ | ⟨a, b⟩)
      · exact ⟨.inl (by omega), b⟩
      · exact ⟨.inr a, b⟩
    · rintro ⟨a | a, b⟩
      · exact .inl ⟨by omega, b⟩
      · exact .inr ⟨a, b⟩
theorem mem_blk {p q : P2} {w h : Nat} : q ∈ blkM p w h ↔ p.1 ≤ q.1 ∧ q.1 < p.1 + w ∧ p.2 ≤ q.2 ∧ q.2 < p.2 + h := by
  unfold blkM
  rw [mem_block, List.mem_map]
  constructor
  · rintro ⟨⟨i, hi, e⟩, b⟩
    have := List.mem_range.mp hi
    exact ⟨by omega, by omega, b⟩
  · rintro ⟨a, b, c⟩
    exact ⟨⟨(q.1 - p.1).toNat, List.mem_range.mpr (by omega), by omega⟩, c⟩
theorem col_nodup {x y k : Int} {h : Nat} : (colM x y h k).Nodup := by
  unfold colM
  refine List.Pairwise.map _ (fun a b ne e => ne ?_) (List.nodup_range (n := h))
  have := congrArg Prod.snd e
  simp at this
  omega
theorem block_nodup {x y : Int} {h : Nat} : ∀ {ks : List Int}, ks.Nodup → (blockM x y h ks).Nodup
  | [], _ => List.nodup_nil
  | k :: ks, hk => by
    have ⟨h1, h2⟩ := List.nodup_cons.mp hk
    unfold blockM
    refine List.nodup_append.mpr ⟨col_nodup, block_nodup h2, fun a ha b hb e => ?_⟩
    subst e
    have c1 := mem_col.mp ha
    have c2 := mem_block.mp hb
    exact h1 (by have := c2.1; rwa [show a.1 - x = k by omega] at this)
theorem blk_nodup {p : P2} {w h : Nat} : (blkM p w h).Nodup := block_nodup (List.Pairwise.map _ (fun a b ne e => ne (by omega)) (List.nodup_range (n := w)))
theorem blk_len {p : P2} {w h : Nat} : (blkM p w h).length = h * w := by
  unfold blkM
  rw [blockM_len, List.length_map, List.length_range]
/-- what the laws draw -/
inductive Shp (cs : List P2) : Prop where
  | grw (g : Grw cs) (per : manyM cs cs ≤ 2 * cs.length + 2 ∨ ∃ p : P2, ∀ q ∈ cs, p.1 ≤ q.1 ∧ q.1 < p.1 + 6 ∧ p.2 ≤ q.2 ∧ q.2 < p.2 + 8)
  | blk (p : P2) (w h : Nat) (h1 : 0 ≤ p.1 ∧ p.1 < 4 ∧ 0 ≤ p.2 ∧ p.2 < 4) (h2 : 1 ≤ w ∧ w ≤ 6 ∧ 1 ≤ h ∧ h ≤ 8) (e : cs = blkM p w h)
  | more (p : P2) (w h j : Nat) (h1 : 0 ≤ p.1 ∧ p.1 < 4 ∧ 0 ≤ p.2 ∧ p.2 < 4) (h2 : 1 ≤ w ∧ w ≤ 6 ∧ 1 ≤ h ∧ h ≤ 8) (hj : j < h) (e : cs = blkM p w h ++ [(p.1 + w, p.2 + j)])
/-- a comprehension whose test draws: some of the items -/
theorem lc_some {gd : GT} {ft : ET} {fe : E} {env : Ev} : ∀ {cs : List P2} {δ : List Int}, 2 ≤ δ.length → (∀ p ∈ cs, ∀ δ : List Int, 2 ≤ δ.length → ∃ (e1 : Ev) (b : Bool) (δ' : List Int), gd (pD p) env = some e1 ∧ ft e1 δ = some (b, δ') ∧ 2 ≤ δ'.length ∧ ∀ δ, fe e1 δ = some (pD p, δ)) →
    ∃ (ds : List P2) (δ' : List Int), lcD gd ft fe env (cs.map pD) δ = some (ds.map pD, δ') ∧ ds.Sublist cs ∧ 2 ≤ δ'.length
  | [], δ, hd, _ => ⟨[], δ, rfl, List.Sublist.slnil, hd⟩
  | p :: cs, δ, hd, h => by
    obtain ⟨e1, b, δ1, h1, h2, h3, h4⟩ := h p List.mem_cons_self δ hd
    obtain ⟨ds, δ', e, sb, d'⟩ := lc_some (cs := cs) h3 fun q hq => h q (List.mem_cons_of_mem _ hq)
    cases b with
    | true => exact ⟨p :: ds, δ', lc_t h1 h2 (h4 _) e, sb.cons₂ p, d'⟩
    | false => exact ⟨ds, δ', lc_f h1 h2 e, sb.cons p, d'⟩
theorem cutD_pr (l : List P2) (lo hi : Option Int) : ∃ m : List P2, cutD (l.map pD) lo hi = m.map pD := by
  refine ⟨(l.drop (HT.sIx l.length 0 lo)).take (HT.sIx l.length l.length hi - HT.sIx l.length 0 lo), ?_⟩
  unfold cutD
  simp [List.map_take, List.map_drop]
end Cm

namespace Cm
open PySem PySem.Spec L2 Dl
theorem off_at {i : Nat} {env : Ev} {f : E} {δ : List Int} {m : Int} (h0 : env[i]? = some (.val .dice)) (h1 : f env δ = some (.int m, δ)) (hm : 0 < m) (hm2 : m < 1073741824) (hd : 2 ≤ δ.length) :
    ∃ (a : Int) (δ' : List Int), eCall G_l_off (["_law_d", "_law_most"] : List Str).length (aCons (eVar i) (aCons f aNil)) env δ = some (.int a, δ') ∧ 0 ≤ a ∧ a < m ∧ 2 ≤ δ'.length :=
  ⟨_, _, call_off h0 h1 hm hm2 hd, (off_nn hm).1, (off_nn hm).2, off_len hd⟩
abbrev shLeft : Sg := gIf (eAndT (eTest (eOp dNe (eVar 8) (eLst aNil))) (eTest (eOp dNotN (eCall G_l_rim (["_law_cells_here"] : List Str).length (aCons (eVar 8) aNil)) (eC .non)))) (gAsg (tgName 6) (eVar 8)) gNext
theorem dNe_nil (l : List P2) : dNe (.lst (l.map pD)) (.lst []) = some (.bl (!decide (l = []))) := by
  have := eqD_prs l []
  show (eqD (.lst (l.map pD)) (.lst ([].map pD))).map _ = _
  rw [this]
  rfl
theorem left_eq {env : Ev} {δ : List Int} {ds : List P2} (h8 : env[8]? = some (.val (.lst (ds.map pD)))) (hl : ds.length < 100) : (shLeft env δ = some (.nx env δ)) ∨ (shLeft env δ = some (.nx (env.set 6 (.val (.lst (ds.map pD)))) δ) ∧ ds ≠ [] ∧ rimM ds ≠ none) := by
  have t1 := eTest_s (eOp_s (δ := δ) (eVar_s h8) (eLst_s (env := env) aNil_s (by simp)) (dNe_nil ds))
  by_cases hne : ds = []
  · rw [decide_eq_true hne] at t1
    exact .inl (gIf_f (eAndT_f t1) gNext_s)
  · rw [decide_eq_false hne] at t1
    have t2 := notN_rim (env := env) (δ := δ) (f := eVar 8) (cs := ds) (eVar_s h8) hne (by omega)
    cases hr : rimM ds with
    | none =>
      rw [hr] at t2
      exact .inl (gIf_f (eAndT_t t1 t2) gNext_s)
    | some w =>
      rw [hr] at t2
      exact .inr ⟨gIf_t (eAndT_t t1 t2) (gAsg_s (eVar_s h8) rfl), hne, fun z => by cases z⟩
theorem shape_eq {most : Int} {δ : List Int} (h0 : 10 ≤ most) (h1 : most < 60) (hd : 2 ≤ δ.length) : ∃ (cs : List P2) (δ' : List Int), G_l_shape [.dice, .int most] δ = some (.lst (cs.map pD), δ') ∧ Shp cs ∧ (cs.length : Int) ≤ most ∧ 2 ≤ δ'.length := by
  obtain ⟨way, δ1, e1, w0, w5, d1⟩ := off_at (i := 0) (env := startE N_l_shape [.dice, .int most]) (f := eC (.int 5)) (δ := δ) rfl eC_s (by omega) (by omega) hd
  obtain ⟨px, δ2, e2, x0, x4, d2⟩ := off_at (i := 0) (env := (startE N_l_shape [.dice, .int most]).set 2 (.val (.int way))) (f := eC (.int 4)) (δ := δ1) rfl eC_s (by omega) (by omega) d1
  obtain ⟨py, δ3, e3, y0, y4, d3⟩ := off_at (i := 0) (env := (startE N_l_shape [.dice, .int most]).set 2 (.val (.int way))) (f := eC (.int 4)) (δ := δ2) rfl eC_s (by omega) (by omega) d2
  have pre : ∀ {g : Sg} {o : Out}, g [.val .dice, .val (.int most), .val (.int way), .val (pD (px, py)), .un, .un, .un, .un, .un, .un, .un] δ3 = some o →
      gSeq (gAsg (tgName 2) (eCall G_l_off (["_law_d", "_law_most"] : List Str).length (aCons (eVar 0) (aCons (eC (.int 5)) aNil)))) (gSeq (gAsg (tgName 3) (eTup (aCons (eCall G_l_off (["_law_d", "_law_most"] : List Str).length (aCons (eVar 0) (aCons (eC (.int 4)) aNil))) (aCons (eCall G_l_off (["_law_d", "_law_most"] : List Str).length (aCons (eVar 0) (aCons (eC (.int 4)) aNil))) aNil)))) g) (startE N_l_shape [.dice, .int most]) δ = some o := fun {g o} hg => by
    apply gSeq_n
    · exact gAsg_s e1 rfl
    · apply gSeq_n
      · exact gAsg_s (eTup_s (aCons_s e2 (aCons_s e3 aNil_s)) (by simp)) rfl
      · exact hg
  have tw : eTest (eOp dLt (eVar 2) (eC (.int 2))) [.val .dice, .val (.int most), .val (.int way), .val (pD (px, py)), .un, .un, .un, .un, .un, .un, .un] δ3 = some (decide (way < 2), δ3) := eTest_s (eOp_s (eVar_s rfl) eC_s dLt_i)
  by_cases hw : way < 2
  · rw [decide_eq_true hw] at tw
    obtain ⟨cs, δ', e, g, gp, l, d'⟩ := grown_eq (most := most) (p := (px, py)) (δ := δ3) (by omega) h1 ⟨x0, by show px < 12; omega, y0, by show py < 12; omega⟩ d3
    refine ⟨cs, δ', runG_r ?_, .grw g (.inl gp), l, d'⟩
    unfold g_l_shape
    apply pre
    apply gSeq_r
    apply gIf_t
    · exact tw
    · exact gRet_s (eCall_s (aCons_s (eVar_s rfl) (aCons_s (eVar_s rfl) (aCons_s (eVar_s rfl) aNil_s))) rfl e)
  · rw [decide_eq_false hw] at tw
    obtain ⟨wi, δ4, e4, w60, w66, d4⟩ := off_at (i := 0) (env := [.val .dice, .val (.int most), .val (.int way), .val (pD (px, py)), .un, .un, .un, .un, .un, .un, .un]) (f := eC (.int 6)) (δ := δ3) rfl eC_s (by omega) (by omega) d3
    obtain ⟨w, hwn⟩ : ∃ w : Nat, 1 + wi = (w : Int) := ⟨(1 + wi).toNat, by omega⟩
    have hq0 : 1 ≤ most / (w : Int) := by
      rw [Int.le_ediv_iff_mul_le (by omega)]
      omega
    have hq1 : most / (w : Int) * w ≤ most := Int.ediv_mul_le _ (by omega)
    have hq2 : most / (w : Int) < 60 := by
      have : most / (w : Int) ≤ most := Int.ediv_le_self _ (by omega)
      omega
    generalize hq : most / (w : Int) = q at hq0 hq1 hq2
    obtain ⟨hi, δ5, e5, h50, h56, d5⟩ := off_at (i := 0) (env := [.val .dice, .val (.int most), .val (.int way), .val (pD (px, py)), .val (.int w), .un, .un, .un, .un, .un, .un]) (f := eB dMax2 (aCons (eC (.int 1)) (aCons (eB dMin2 (aCons (eC (.int 8)) (aCons (eOp dFdiv (eVar 1) (eVar 4)) aNil))) aNil))) (δ := δ4) (m := if (if q < 8 then q else 8) > 1 then (if q < 8 then q else 8) else 1) rfl
      (eB_s (aCons_s eC_s (aCons_s (eB_s (z := .int (if q < 8 then q else 8)) (aCons_s eC_s (aCons_s (eOp_s (eVar_s rfl) (eVar_s rfl) (dFdiv_i (by omega) (by omega))) aNil_s)) (by rw [hq]; rfl)) aNil_s)) rfl) (by split <;> split at * <;> omega) (by split <;> split at * <;> omega) d4
    obtain ⟨h, hhn⟩ : ∃ h : Nat, 1 + hi = (h : Int) := ⟨(1 + hi).toNat, by omega⟩
    have hh8 : h ≤ 8 ∧ (h : Int) ≤ q := by
      split at h56 <;> split at * <;> omega
    have hh1 : 1 ≤ h := by omega
    have hw1 : 1 ≤ w := by omega
    have hw6 : w ≤ 6 := by omega
    have hlen : ((blkM (px, py) w h).length : Int) ≤ most := by
      rw [blk_len]
      have : ((h * w : Nat) : Int) ≤ q * w := by
        rw [Int.natCast_mul]
        exact Int.mul_le_mul_of_nonneg_right hh8.2 (by omega)
      omega
    have hB1 : 0 ≤ ((px, py) : P2).1 ∧ ((px, py) : P2).1 < 4 ∧ 0 ≤ ((px, py) : P2).2 ∧ ((px, py) : P2).2 < 4 := ⟨x0, x4, y0, y4⟩
    have hB2 : 1 ≤ w ∧ w ≤ 6 ∧ 1 ≤ h ∧ h ≤ 8 := ⟨hw1, hw6, hh1, hh8.1⟩
    have run : ∀ {g : Sg} {r : Dat × List Int}, g [.val .dice, .val (.int most), .val (.int way), .val (pD (px, py)), .val (.int w), .val (.int h), .val (.lst ((blkM (px, py) w h).map pD)), .un, .un, .un, .un] δ5 = some (.rt r.1 r.2) →
        (gSeq (gIf (eTest (eOp dLt (eVar 2) (eC (.int 2)))) (gRet (eCall G_l_grown (["_law_d", "_law_most", "_law_place"] : List Str).length (aCons (eVar 0) (aCons (eVar 1) (aCons (eVar 3) aNil))))) gNext)
        (gSeq (gAsg (tgName 4) (eOp dAdd (eC (.int 1)) (eCall G_l_off (["_law_d", "_law_most"] : List Str).length (aCons (eVar 0) (aCons (eC (.int 6)) aNil)))))
        (gSeq (gAsg (tgName 5) (eOp dAdd (eC (.int 1)) (eCall G_l_off (["_law_d", "_law_most"] : List Str).length (aCons (eVar 0) (aCons (eB dMax2 (aCons (eC (.int 1)) (aCons (eB dMin2 (aCons (eC (.int 8)) (aCons (eOp dFdiv (eVar 1) (eVar 4)) aNil))) aNil))) aNil)))))
        (gSeq (gAsg (tgName 6) (eCall G_l_block (["_law_x", "_law_y", "_law_wide", "_law_high"] : List Str).length (aCons (eOp dIx (eVar 3) (eC (.int 0))) (aCons (eOp dIx (eVar 3) (eC (.int 1))) (aCons (eVar 4) (aCons (eVar 5) aNil)))))) g)))) [.val .dice, .val (.int most), .val (.int way), .val (pD (px, py)), .un, .un, .un, .un, .un, .un, .un] δ3 = some (.rt r.1 r.2) := fun {g r} hg => by
      apply gSeq_n
      · exact gIf_f tw gNext_s
      apply gSeq_n
      · exact gAsg_s (x := .int w) (eOp_s eC_s e4 (by rw [dAdd_i, hwn])) rfl
      apply gSeq_n
      · exact gAsg_s (x := .int h) (eOp_s eC_s e5 (by rw [dAdd_i, hhn])) rfl
      apply gSeq_n
      · exact gAsg_s (eCall_s (aCons_s (eOp_s (eVar_s rfl) eC_s (dIx_p0 (px, py))) (aCons_s (eOp_s (eVar_s rfl) eC_s (dIx_p1 (px, py))) (aCons_s (eVar_s rfl) (aCons_s (eVar_s rfl) aNil_s)))) rfl (block_eq (by omega) (by omega))) rfl
      · exact hg
    have ret : ∀ {env : Ev} {δ : List Int} {cs : List P2} {B : Sg}, env[2]? = some (.val (.int way)) → env[6]? = some (.val (.lst (cs.map pD))) → way ≠ 4 → gSeq (gIf (eTest (eOp dEq (eVar 2) (eC (.int 4)))) B gNext) (gRet (eVar 6)) env δ = some (.rt (.lst (cs.map pD)) δ) := fun {env δ cs B} h2 h6 h4 => by
      have t := eTest_s (eOp_s (δ := δ) (eVar_s h2) (eC_s (x := .int 4)) dEq_i)
      rw [decide_eq_false h4] at t
      apply gSeq_n
      · exact gIf_f t gNext_s
      · exact gRet_s (eVar_s h6)
    by_cases h4 : way = 4
    · obtain ⟨jj, δ6, e6, j0, jh, d6⟩ := off_at (i := 0) (env := [.val .dice, .val (.int most), .val (.int way), .val (pD (px, py)), .val (.int w), .val (.int h), .val (.lst ((blkM (px, py) w h).map pD)), .un, .un, .un, .un]) (f := eVar 5) (δ := δ5) rfl (eVar_s rfl) (by omega) (by omega) d5
      obtain ⟨j, hj⟩ : ∃ j : Nat, jj = (j : Int) := ⟨jj.toNat, by omega⟩
      subst hj
      have t1 := eTest_s (eOp_s (δ := δ5) (env := [.val .dice, .val (.int most), .val (.int way), .val (pD (px, py)), .val (.int w), .val (.int h), .val (.lst ((blkM (px, py) w h).map pD)), .un, .un, .un, .un]) (eVar_s (i := 2) rfl) (eC_s (x := .int 3)) dEq_i)
      rw [decide_eq_false (by omega : ¬ way = 3)] at t1
      have t2 := eTest_s (eOp_s (δ := δ5) (env := [.val .dice, .val (.int most), .val (.int way), .val (pD (px, py)), .val (.int w), .val (.int h), .val (.lst ((blkM (px, py) w h).map pD)), .un, .un, .un, .un]) (eVar_s (i := 2) rfl) (eC_s (x := .int 4)) dEq_i)
      rw [decide_eq_true h4] at t2
      have more : gAsg (tgName 9) (eOp dAdd (eVar 6) (eLst (aCons (eTup (aCons (eOp dAdd (eOp dIx (eVar 3) (eC (.int 0))) (eVar 4)) (aCons (eOp dAdd (eOp dIx (eVar 3) (eC (.int 1))) (eCall G_l_off (["_law_d", "_law_most"] : List Str).length (aCons (eVar 0) (aCons (eVar 5) aNil)))) aNil))) aNil))) [.val .dice, .val (.int most), .val (.int way), .val (pD (px, py)), .val (.int w), .val (.int h), .val (.lst ((blkM (px, py) w h).map pD)), .un, .un, .un, .un] δ5 =
          some (.nx ([.val .dice, .val (.int most), .val (.int way), .val (pD (px, py)), .val (.int w), .val (.int h), .val (.lst ((blkM (px, py) w h).map pD)), .un, .un, .un, .un].set 9 (.val (.lst ((blkM (px, py) w h ++ [(px + w, py + j)]).map pD)))) δ6) := by
        rw [List.map_append]
        exact gAsg_s (eOp_s (eVar_s rfl) (eLst_s (aCons_s (eTup_s (aCons_s (eOp_s (eOp_s (eVar_s rfl) eC_s (dIx_p0 (px, py))) (eVar_s rfl) dAdd_i) (aCons_s (eOp_s (eOp_s (eVar_s rfl) eC_s (dIx_p1 (px, py))) e6 dAdd_i) aNil_s)) (by simp)) aNil_s) (by simp)) (dAdd_l (by simp; omega))) rfl
      have t3 := eTest_s (eOp_s (δ := δ6) (env := ([.val .dice, .val (.int most), .val (.int way), .val (pD (px, py)), .val (.int w), .val (.int h), .val (.lst ((blkM (px, py) w h).map pD)), .un, .un, .un, .un]).set 9 (.val (.lst ((blkM (px, py) w h ++ [(px + w, py + j)]).map pD)))) (eB_s (aCons_s (eVar_s (i := 9) rfl) aNil_s) (dLen_l (by simp; omega))) (eVar_s (i := 1) rfl) dLe_i)
      by_cases hm : (((blkM (px, py) w h ++ [(px + w, py + j)]).map pD).length : Int) ≤ most
      · rw [decide_eq_true hm] at t3
        refine ⟨blkM (px, py) w h ++ [(px + w, py + j)], δ6, runG_r ?_, .more (px, py) w h j hB1 hB2 (by omega) rfl, by rw [List.length_map] at hm; exact hm, d6⟩
        unfold g_l_shape
        apply pre
        apply run (r := (_, _))
        apply gSeq_n
        · exact gIf_f (eAndT_f t1) gNext_s
        · apply gSeq_n
          · apply gIf_t t2
            apply gSeq_n more
            exact gIf_t t3 (gAsg_s (eVar_s rfl) rfl)
          · exact gRet_s (eVar_s rfl)
      · rw [decide_eq_false hm] at t3
        refine ⟨blkM (px, py) w h, δ6, runG_r ?_, .blk (px, py) w h hB1 hB2 rfl, hlen, d6⟩
        unfold g_l_shape
        apply pre
        apply run (r := (_, _))
        apply gSeq_n
        · exact gIf_f (eAndT_f t1) gNext_s
        · apply gSeq_n
          · apply gIf_t t2
            apply gSeq_n more
            exact gIf_f t3 gNext_s
          · exact gRet_s (eVar_s rfl)
    · by_cases h3 : way = 3 ∧ 1 < (w : Int) ∧ 1 < (h : Int)
      · obtain ⟨a1, a2, a3⟩ := h3
        have t1 := eTest_s (eOp_s (δ := δ5) (env := [.val .dice, .val (.int most), .val (.int way), .val (pD (px, py)), .val (.int w), .val (.int h), .val (.lst ((blkM (px, py) w h).map pD)), .un, .un, .un, .un]) (eVar_s (i := 2) rfl) (eC_s (x := .int 3)) dEq_i)
        rw [decide_eq_true a1] at t1
        have t2 := eTest_s (eOp_s (δ := δ5) (env := [.val .dice, .val (.int most), .val (.int way), .val (pD (px, py)), .val (.int w), .val (.int h), .val (.lst ((blkM (px, py) w h).map pD)), .un, .un, .un, .un]) (eVar_s (i := 4) rfl) (eC_s (x := .int 1)) dGt_i)
        rw [decide_eq_true a2] at t2
        have t3 := eTest_s (eOp_s (δ := δ5) (env := [.val .dice, .val (.int most), .val (.int way), .val (pD (px, py)), .val (.int w), .val (.int h), .val (.lst ((blkM (px, py) w h).map pD)), .un, .un, .un, .un]) (eVar_s (i := 5) rfl) (eC_s (x := .int 1)) dGt_i)
        rw [decide_eq_true a3] at t3
        have gone : ∃ gs : List P2, gAsg (tgName 7) (eLst (aCons (eVar 3) (aCons (eTup (aCons (eOp dSub (eOp dAdd (eOp dIx (eVar 3) (eC (.int 0))) (eVar 4)) (eC (.int 1))) (aCons (eOp dSub (eOp dAdd (eOp dIx (eVar 3) (eC (.int 1))) (eVar 5)) (eC (.int 1))) aNil))) (aCons (eTup (aCons (eOp dIx (eVar 3) (eC (.int 0))) (aCons (eOp dSub (eOp dAdd (eOp dIx (eVar 3) (eC (.int 1))) (eVar 5)) (eC (.int 1))) aNil))) aNil)))) [.val .dice, .val (.int most), .val (.int way), .val (pD (px, py)), .val (.int w), .val (.int h), .val (.lst ((blkM (px, py) w h).map pD)), .un, .un, .un, .un] δ5 = some (.nx (([.val .dice, .val (.int most), .val (.int way), .val (pD (px, py)), .val (.int w), .val (.int h), .val (.lst ((blkM (px, py) w h).map pD)), .un, .un, .un, .un]).set 7 (.val (.lst (gs.map pD)))) δ5) :=
          ⟨[(px, py), (px + w - 1, py + h - 1), (px, py + h - 1)], gAsg_s (eLst_s (aCons_s (eVar_s rfl) (aCons_s (eTup_s (aCons_s (eOp_s (eOp_s (eOp_s (eVar_s rfl) eC_s (dIx_p0 (px, py))) (eVar_s rfl) dAdd_i) eC_s dSub_i) (aCons_s (eOp_s (eOp_s (eOp_s (eVar_s rfl) eC_s (dIx_p1 (px, py))) (eVar_s rfl) dAdd_i) eC_s dSub_i) aNil_s)) (by simp)) (aCons_s (eTup_s (aCons_s (eOp_s (eVar_s rfl) eC_s (dIx_p0 (px, py))) (aCons_s (eOp_s (eOp_s (eOp_s (eVar_s rfl) eC_s (dIx_p1 (px, py))) (eVar_s rfl) dAdd_i) eC_s dSub_i) aNil_s)) (by simp)) aNil_s))) (by simp)) rfl⟩
        obtain ⟨gs, hgs⟩ := gone
        have comp := lc_some (gd := tgName 10) (ft := eTest (eOp dNotIn (eVar 10) (eSl (eVar 7) (oSome (eCall G_l_off (["_law_d", "_law_most"] : List Str).length (aCons (eVar 0) (aCons (eC (.int 2)) aNil)))) (oSome (eOp dAdd (eC (.int 1)) (eCall G_l_off (["_law_d", "_law_most"] : List Str).length (aCons (eVar 0) (aCons (eC (.int 3)) aNil)))))))) (fe := eVar 10) (env := ([.val .dice, .val (.int most), .val (.int way), .val (pD (px, py)), .val (.int w), .val (.int h), .val (.lst ((blkM (px, py) w h).map pD)), .un, .un, .un, .un]).set 7 (.val (.lst (gs.map pD)))) (cs := blkM (px, py) w h) (δ := δ5) d5 fun p _ δ hd => by
          obtain ⟨b1, δa, e1, _, _, da⟩ := off_at (i := 0) (env := (([.val .dice, .val (.int most), .val (.int way), .val (pD (px, py)), .val (.int w), .val (.int h), .val (.lst ((blkM (px, py) w h).map pD)), .un, .un, .un, .un]).set 7 (.val (.lst (gs.map pD)))).set 10 (.val (pD p))) (f := eC (.int 2)) (δ := δ) rfl eC_s (by omega) (by omega) hd
          obtain ⟨b2, δb, e2, _, _, db⟩ := off_at (i := 0) (env := (([.val .dice, .val (.int most), .val (.int way), .val (pD (px, py)), .val (.int w), .val (.int h), .val (.lst ((blkM (px, py) w h).map pD)), .un, .un, .un, .un]).set 7 (.val (.lst (gs.map pD)))).set 10 (.val (pD p))) (f := eC (.int 3)) (δ := δa) rfl eC_s (by omega) (by omega) da
          obtain ⟨ms, hms⟩ := cutD_pr gs (some b1) (some (1 + b2))
          refine ⟨_, _, δb, rfl, eTest_s (eOp_s (eVar_s rfl) (eSl_s (z := .lst (ms.map pD)) (eVar_s (i := 7) rfl) (oSome_s e1) (oSome_s (eOp_s eC_s e2 dAdd_i)) (by rw [← hms]; rfl)) (dNotIn_pr p ms)), db, fun δ => eVar_s rfl⟩
        obtain ⟨ds, δ6, e6, sb, d6⟩ := comp
        have lds : ds.length ≤ (blkM (px, py) w h).length := sb.length_le
        have pre2 : ∀ {o : Out}, shLeft ((([.val .dice, .val (.int most), .val (.int way), .val (pD (px, py)), .val (.int w), .val (.int h), .val (.lst ((blkM (px, py) w h).map pD)), .un, .un, .un, .un]).set 7 (.val (.lst (gs.map pD)))).set 8 (.val (.lst (ds.map pD)))) δ6 = some o → gIf (eAndT (eTest (eOp dEq (eVar 2) (eC (.int 3)))) (eAndT (eTest (eOp dGt (eVar 4) (eC (.int 1)))) (eTest (eOp dGt (eVar 5) (eC (.int 1)))))) (gSeq (gAsg (tgName 7) (eLst (aCons (eVar 3) (aCons (eTup (aCons (eOp dSub (eOp dAdd (eOp dIx (eVar 3) (eC (.int 0))) (eVar 4)) (eC (.int 1))) (aCons (eOp dSub (eOp dAdd (eOp dIx (eVar 3) (eC (.int 1))) (eVar 5)) (eC (.int 1))) aNil))) (aCons (eTup (aCons (eOp dIx (eVar 3) (eC (.int 0))) (aCons (eOp dSub (eOp dAdd (eOp dIx (eVar 3) (eC (.int 1))) (eVar 5)) (eC (.int 1))) aNil))) aNil)))))
            (gSeq (gAsg (tgName 8) (eF (fLc (iLst (eVar 6)) (tgName 10) (eTest (eOp dNotIn (eVar 10) (eSl (eVar 7) (oSome (eCall G_l_off (["_law_d", "_law_most"] : List Str).length (aCons (eVar 0) (aCons (eC (.int 2)) aNil)))) (oSome (eOp dAdd (eC (.int 1)) (eCall G_l_off (["_law_d", "_law_most"] : List Str).length (aCons (eVar 0) (aCons (eC (.int 3)) aNil)))))))) (eVar 10) [10]))) shLeft)) gNext [.val .dice, .val (.int most), .val (.int way), .val (pD (px, py)), .val (.int w), .val (.int h), .val (.lst ((blkM (px, py) w h).map pD)), .un, .un, .un, .un] δ5 = some o := fun {o} ho => by
          apply gIf_t (eAndT_t t1 (eAndT_t t2 t3))
          apply gSeq_n hgs
          apply gSeq_n
          · apply gAsg_s
            · apply eF_s
              apply fLc_s
              · exact iLst_s (eVar_s rfl)
              · rw [List.length_map]; omega
              · exact rfl
              · exact e6
            · exact rfl
          · exact ho
        rcases left_eq (env := ((([.val .dice, .val (.int most), .val (.int way), .val (pD (px, py)), .val (.int w), .val (.int h), .val (.lst ((blkM (px, py) w h).map pD)), .un, .un, .un, .un]).set 7 (.val (.lst (gs.map pD)))).set 8 (.val (.lst (ds.map pD))))) (δ := δ6) (ds := ds) rfl (by omega) with hL | ⟨hL, hne, hr⟩
        · refine ⟨blkM (px, py) w h, δ6, runG_r ?_, .blk (px, py) w h hB1 hB2 rfl, hlen, d6⟩
          unfold g_l_shape
          apply pre
          apply run (r := (_, _))
          apply gSeq_n
          · exact pre2 hL
          · exact ret rfl rfl h4
        · refine ⟨ds, δ6, runG_r ?_, .grw ⟨hne, sb.nodup blk_nodup, fun p hp => ?_, .inl hr⟩ (.inr ⟨(px, py), fun q hq => by
            have := mem_blk.mp (sb.subset hq)
            simp only at this ⊢
            omega⟩), by omega, d6⟩
          · unfold g_l_shape
            apply pre
            apply run (r := (_, _))
            apply gSeq_n
            · exact pre2 hL
            · exact ret rfl rfl h4
          · have := mem_blk.mp (sb.subset hp)
            simp only at this
            exact ⟨by omega, by omega, by omega, by omega⟩
      · refine ⟨blkM (px, py) w h, δ5, runG_r ?_, .blk (px, py) w h hB1 hB2 rfl, hlen, d5⟩
        unfold g_l_shape
        apply pre
        apply run (r := (_, _))
        apply gSeq_n
        · apply gIf_f (δ1 := δ5)
          · by_cases a1 : way = 3
            · have t1 := eTest_s (eOp_s (δ := δ5) (env := [.val .dice, .val (.int most), .val (.int way), .val (pD (px, py)), .val (.int w), .val (.int h), .val (.lst ((blkM (px, py) w h).map pD)), .un, .un, .un, .un]) (eVar_s (i := 2) rfl) (eC_s (x := .int 3)) dEq_i)
              rw [decide_eq_true a1] at t1
              refine eAndT_t t1 ?_
              have t2 := eTest_s (eOp_s (δ := δ5) (env := [.val .dice, .val (.int most), .val (.int way), .val (pD (px, py)), .val (.int w), .val (.int h), .val (.lst ((blkM (px, py) w h).map pD)), .un, .un, .un, .un]) (eVar_s (i := 4) rfl) (eC_s (x := .int 1)) dGt_i)
              by_cases a2 : 1 < (w : Int)
              · rw [decide_eq_true a2] at t2
                have t3 := eTest_s (eOp_s (δ := δ5) (env := [.val .dice, .val (.int most), .val (.int way), .val (pD (px, py)), .val (.int w), .val (.int h), .val (.lst ((blkM (px, py) w h).map pD)), .un, .un, .un, .un]) (eVar_s (i := 5) rfl) (eC_s (x := .int 1)) dGt_i)
                rw [decide_eq_false fun z => h3 ⟨a1, a2, z⟩] at t3
                exact eAndT_t t2 t3
              · rw [decide_eq_false a2] at t2
                exact eAndT_f t2
            · have t1 := eTest_s (eOp_s (δ := δ5) (env := [.val .dice, .val (.int most), .val (.int way), .val (pD (px, py)), .val (.int w), .val (.int h), .val (.lst ((blkM (px, py) w h).map pD)), .un, .un, .un, .un]) (eVar_s (i := 2) rfl) (eC_s (x := .int 3)) dEq_i)
              rw [decide_eq_false a1] at t1
              exact eAndT_f t1
          · exact gNext_s
        · exact ret rfl rfl h4
end Cm

namespace Cm
open PySem PySem.Spec L2 Dl
def maxI : List Int → Int
  | [] => 0
  | k :: ks => maxL k ks
theorem dMax_s {ks : List Int} (h : ks ≠ []) : dMax [.lst (ks.map .int)] = some (.int (maxI ks)) := by
  cases ks with
  | nil => exact absurd rfl h
  | cons k ks =>
    show (toI ((k :: ks).map .int)).bind _ = _
    rw [toI_map]
    rfl
theorem maxI_le {ks : List Int} : ∀ j ∈ ks, j ≤ maxI ks := by
  intro j hj
  cases ks with
  | nil => cases hj
  | cons k ks =>
    have := maxL_le ks k
    rcases List.mem_cons.mp hj with rfl | hj
    · exact this.1
    · exact this.2 j hj
theorem maxI_mem {ks : List Int} (h : ks ≠ []) : maxI ks ∈ ks := by
  cases ks with
  | nil => exact absurd rfl h
  | cons k ks =>
    rcases maxL_mem ks k with e | e
    · show maxL k ks ∈ _
      rw [e]
      exact List.mem_cons_self
    · exact List.mem_cons_of_mem _ e
theorem Shp.ne {cs : List P2} (s : Shp cs) : cs ≠ [] := by
  cases s with
  | grw g _ => exact g.ne
  | blk p w h h1 h2 e =>
    intro z
    have : cs.length = h * w := by rw [e, blk_len]
    rw [z] at this
    have := Nat.mul_pos (show 0 < h by omega) (show 0 < w by omega)
    simp at *
    omega
  | more p w h j h1 h2 hj e => rw [e]; simp
theorem Shp.ob {cs : List P2} (s : Shp cs) : ∀ p ∈ cs, OnB p := by
  cases s with
  | grw g _ => exact g.ob
  | blk p w h h1 h2 e =>
    intro q hq
    rw [e] at hq
    have := mem_blk.mp hq
    exact ⟨by omega, by omega, by omega, by omega⟩
  | more p w h j h1 h2 hj e =>
    intro q hq
    rw [e] at hq
    rcases List.mem_append.mp hq with hq | hq
    · have := mem_blk.mp hq
      exact ⟨by omega, by omega, by omega, by omega⟩
    · rw [List.mem_singleton.mp hq]
      exact ⟨by show 0 ≤ p.1 + (w : Int); omega, by show p.1 + (w : Int) < 12; omega, by show 0 ≤ p.2 + (j : Int); omega, by show p.2 + (j : Int) < 12; omega⟩
theorem Shp.nd {cs : List P2} (s : Shp cs) : cs.Nodup := by
  cases s with
  | grw g _ => exact g.nd
  | blk p w h h1 h2 e => rw [e]; exact blk_nodup
  | more p w h j h1 h2 hj e =>
    rw [e]
    refine List.nodup_append.mpr ⟨blk_nodup, by simp, fun a ha b hb z => ?_⟩
    rw [List.mem_singleton.mp hb] at z
    have := mem_blk.mp ha
    rw [z] at this
    simp at this
def mvd (t p : P2) : P2 := (p.1 + t.1, p.2 + t.2)
theorem mvd0 (cs : List P2) : cs.map (mvd (0, 0)) = cs := by
  have : (mvd (0, 0)) = id := by
    funext p
    exact Prod.ext (Int.add_zero _) (Int.add_zero _)
  rw [this, List.map_id]
theorem cells_eq {most : Int} {δ : List Int} (h0 : 10 ≤ most) (h1 : most < 60) (hd : 2 ≤ δ.length) : ∃ (cs : List P2) (t : P2) (δ' : List Int), G_l_cells [.dice, .int most] δ = some (.lst ((cs.map (mvd t)).map pD), δ') ∧ Shp cs ∧ (∀ p ∈ cs.map (mvd t), OnB p) ∧ (cs.length : Int) ≤ most ∧ 2 ≤ δ'.length := by
  obtain ⟨cs, δ1, e1, sh, hl, d1⟩ := shape_eq h0 h1 hd
  obtain ⟨a, δ2, e2, a0, a2, d2⟩ := off_at (i := 0) (env := [.val .dice, .val (.int most), .val (.lst (cs.map pD)), .un, .un, .un, .un, .un]) (f := eC (.int 2)) (δ := δ1) rfl eC_s (by omega) (by omega) d1
  have t := eTest_s (eOp_s e2 (eC_s (x := .int 0)) dEq_i)
  by_cases ha : a = 0
  · rw [decide_eq_true ha] at t
    have hne := sh.ne
    have xne : cs.map (·.1) ≠ [] := by simpa using hne
    have yne : cs.map (·.2) ≠ [] := by simpa using hne
    refine ⟨cs, (11 - maxI (cs.map (·.1)), 11 - maxI (cs.map (·.2))), δ2, runG_r ?_, sh, fun q hq => ?_, hl, d2⟩
    · show g_l_cells [.val .dice, .val (.int most), .un, .un, .un, .un, .un, .un] δ = _
      unfold g_l_cells
      have x1 : lcD (tgName 5) eYes (eOp dIx (eVar 5) (eC (.int 0))) [.val .dice, .val (.int most), .val (.lst (cs.map pD)), .un, .un, .un, .un, .un] (cs.map pD) δ2 = some ((cs.map (·.1)).map .int, δ2) := by
        have := lc_map (gd := tgName 5) (ft := eYes) (fe := eOp dIx (eVar 5) (eC (.int 0))) (env := [.val .dice, .val (.int most), .val (.lst (cs.map pD)), .un, .un, .un, .un, .un]) (δ := δ2) (φ := fun x => match x with | .tup [y, _] => y | _ => .non) (xs := cs.map pD) fun x hx => by
          obtain ⟨p, _, rfl⟩ := List.mem_map.mp hx
          exact ⟨_, rfl, eYes_s, eOp_s (eVar_s rfl) eC_s (dIx_p0 p)⟩
        refine this.trans ?_
        rw [List.map_map, List.map_map]
        rfl
      have y1 : lcD (tgName 5) eYes (eOp dIx (eVar 5) (eC (.int 1))) [.val .dice, .val (.int most), .val (.lst (cs.map pD)), .un, .un, .un, .un, .un] (cs.map pD) δ2 = some ((cs.map (·.2)).map .int, δ2) := by
        have := lc_map (gd := tgName 5) (ft := eYes) (fe := eOp dIx (eVar 5) (eC (.int 1))) (env := [.val .dice, .val (.int most), .val (.lst (cs.map pD)), .un, .un, .un, .un, .un]) (δ := δ2) (φ := fun x => match x with | .tup [_, y] => y | _ => .non) (xs := cs.map pD) fun x hx => by
          obtain ⟨p, _, rfl⟩ := List.mem_map.mp hx
          exact ⟨_, rfl, eYes_s, eOp_s (eVar_s rfl) eC_s (dIx_p1 p)⟩
        refine this.trans ?_
        rw [List.map_map, List.map_map]
        rfl
      apply gSeq_n
      · exact gAsg_s (eCall_s (aCons_s (eVar_s rfl) (aCons_s (eVar_s rfl) aNil_s)) rfl e1) rfl
      apply gSeq_n
      · apply gIf_t t
        apply gSeq_n
        · apply gAsg_s
          · exact eTup_s (aCons_s (eOp_s eC_s (eB_s (aCons_s (eF_s (fLc_s (iLst_s (eVar_s rfl)) (by rw [List.length_map]; omega) rfl x1)) aNil_s) (dMax_s xne)) dSub_i) (aCons_s (eOp_s eC_s (eB_s (aCons_s (eF_s (fLc_s (iLst_s (eVar_s rfl)) (by rw [List.length_map]; omega) rfl y1)) aNil_s) (dMax_s yne)) dSub_i) aNil_s)) (by simp)
          · exact rfl
        · apply gAsg_s (x := .lst ((cs.map (mvd (11 - maxI (cs.map (·.1)), 11 - maxI (cs.map (·.2))))).map pD))
          · apply eF_s
            apply fLc_s
            · exact iLst_s (eVar_s rfl)
            · rw [List.length_map]; omega
            · exact rfl
            · have := lc_map (gd := tgTup 2 (tgCons (tgName 6) (tgCons (tgName 7) tgNil))) (ft := eYes) (fe := eTup (aCons (eOp dAdd (eVar 6) (eVar 3)) (aCons (eOp dAdd (eVar 7) (eVar 4)) aNil))) (env := [.val .dice, .val (.int most), .val (.lst (cs.map pD)), .val (.int (11 - maxI (cs.map (·.1)))), .val (.int (11 - maxI (cs.map (·.2)))), .un, .un, .un]) (δ := δ2) (φ := fun x => match x with | .tup [.int i, .int j] => pD (mvd (11 - maxI (cs.map (·.1)), 11 - maxI (cs.map (·.2))) (i, j)) | _ => .non) (xs := cs.map pD) fun x hx => by
                obtain ⟨p, _, rfl⟩ := List.mem_map.mp hx
                exact ⟨_, rfl, eYes_s, eTup_s (aCons_s (eOp_s (eVar_s rfl) (eVar_s rfl) dAdd_i) (aCons_s (eOp_s (eVar_s rfl) (eVar_s rfl) dAdd_i) aNil_s)) (by simp)⟩
              refine this.trans ?_
              rw [List.map_map, List.map_map]
              rfl
          · exact rfl
      · exact gRet_s (eVar_s rfl)
    · obtain ⟨p, hp, rfl⟩ := List.mem_map.mp hq
      have b := sh.ob p hp
      have m1 := maxI_le (ks := cs.map (·.1)) p.1 (List.mem_map.mpr ⟨p, hp, rfl⟩)
      have m2 := maxI_le (ks := cs.map (·.2)) p.2 (List.mem_map.mpr ⟨p, hp, rfl⟩)
      obtain ⟨p1, hp1, f1⟩ := List.mem_map.mp (maxI_mem xne)
      obtain ⟨p2, hp2, f2⟩ := List.mem_map.mp (maxI_mem yne)
      have b1 := sh.ob p1 hp1
      have b2 := sh.ob p2 hp2
      unfold OnB at b b1 b2 ⊢
      unfold mvd
      simp only
      omega
  · rw [decide_eq_false ha] at t
    refine ⟨cs, (0, 0), δ2, runG_r ?_, sh, fun q hq => ?_, hl, d2⟩
    · show g_l_cells [.val .dice, .val (.int most), .un, .un, .un, .un, .un, .un] δ = _
      unfold g_l_cells
      rw [mvd0]
      apply gSeq_n
      · exact gAsg_s (eCall_s (aCons_s (eVar_s rfl) (aCons_s (eVar_s rfl) aNil_s)) rfl e1) rfl
      apply gSeq_n
      · exact gIf_f t gNext_s
      · exact gRet_s (eVar_s rfl)
    · rw [mvd0] at hq
      exact sh.ob q hq
end Cm

namespace Cm
open PySem PySem.Spec L2 Dl
/-! A rim does not hang on the place. -/
theorem mvd_inj {t p q : P2} : mvd t p = mvd t q ↔ p = q := by
  constructor
  · intro h
    have h1 := congrArg Prod.fst h
    have h2 := congrArg Prod.snd h
    unfold mvd at h1 h2
    simp only at h1 h2
    exact Prod.ext (by omega) (by omega)
  · rintro rfl
    rfl
theorem mem_mvd {t p : P2} {cs : List P2} : mvd t p ∈ cs.map (mvd t) ↔ p ∈ cs := by
  rw [List.mem_map]
  constructor
  · rintro ⟨q, hq, e⟩
    rw [← mvd_inj.mp e]
    exact hq
  · intro h
    exact ⟨p, h, rfl⟩
theorem near_mvd (t p : P2) : nearM (mvd t p) = (nearM p).map (mvd t) := by
  unfold nearM mvd
  simp only [List.map_cons, List.map_nil]
  refine congr (congrArg _ (Prod.ext (by show _ = _; simp only; omega) rfl)) (congr (congrArg _ (Prod.ext (by show _ = _; simp only; omega) rfl)) (congr (congrArg _ (Prod.ext rfl (by show _ = _; simp only; omega))) (congr (congrArg _ (Prod.ext rfl (by show _ = _; simp only; omega))) rfl)))
theorem out_mvd (t : P2) (cs : List P2) (p : P2) : outM (cs.map (mvd t)) (mvd t p) = outM cs p := by
  unfold outM
  rw [near_mvd, List.filter_map, List.length_map]
  congr 1
  refine List.filter_congr fun q _ => ?_
  show decide (mvd t q ∉ cs.map (mvd t)) = decide (q ∉ cs)
  simp only [mem_mvd]
theorem many_mvd (t : P2) (cs : List P2) : ∀ ds : List P2, manyM (cs.map (mvd t)) (ds.map (mvd t)) = manyM cs ds
  | [] => rfl
  | p :: ds => by
    simp only [List.map_cons, manyM, out_mvd, many_mvd t cs ds]
theorem lcell_mvd (t p : P2) (c : Nat) : lcell (mvd t p) c = mvd t (lcell p c) := by
  unfold lcell mvd
  split
  · rfl
  · split
    · exact Prod.ext (by simp only; omega) rfl
    · split
      · exact Prod.ext (by simp only; omega) (by simp only; omega)
      · exact Prod.ext rfl (by simp only; omega)
theorem rcell_mvd (t p : P2) (c : Nat) : rcell (mvd t p) c = mvd t (rcell p c) := by
  unfold rcell mvd
  split
  · exact Prod.ext rfl (by simp only; omega)
  · split
    · rfl
    · split
      · exact Prod.ext (by simp only; omega) rfl
      · exact Prod.ext (by simp only; omega) (by simp only; omega)
theorem ways_mvd (t : P2) (cs : List P2) (p : P2) : waysM (cs.map (mvd t)) (mvd t p) = waysM cs p := by
  unfold waysM
  refine List.filter_congr fun c _ => ?_
  unfold okW
  simp only [lcell_mvd, rcell_mvd, mem_mvd]
theorem go_mvd (t p : P2) (c : Nat) : go1 (mvd t p) c = mvd t (go1 p c) := by
  unfold go1 mvd
  exact Prod.ext (by simp only; omega) (by simp only; omega)
theorem min_add (a : Int) {ks : List Int} (h : ks ≠ []) : minI (ks.map (· + a)) = minI ks + a := by
  have h1 : minI (ks.map (· + a)) ∈ ks.map (· + a) := minI_mem (by simpa using h)
  obtain ⟨j, hj, e⟩ := List.mem_map.mp h1
  have h2 := minI_le (ks := ks) j hj
  have h3 := minI_le (ks := ks.map (· + a)) (minI ks + a) (List.mem_map.mpr ⟨_, minI_mem h, rfl⟩)
  omega
theorem beg_mvd (t : P2) {cs : List P2} (h : cs ≠ []) : begM (cs.map (mvd t)) = mvd t (begM cs) := by
  have hy : minI ((cs.map (mvd t)).map (·.2)) = minI (cs.map (·.2)) + t.2 := by
    rw [← min_add t.2 (by simpa using h)]
    congr 1
    rw [List.map_map, List.map_map]
    rfl
  have hne : (cs.filter fun p => decide (p.2 = minI (cs.map (·.2)))).map (·.1) ≠ [] := by
    intro z
    have := List.filter_eq_nil_iff.mp (List.map_eq_nil_iff.mp z) _ (begM_mem h)
    exact this (decide_eq_true rfl)
  unfold begM
  rw [hy]
  refine Prod.ext ?_ rfl
  show minI _ = minI _ + t.1
  rw [← min_add t.1 hne]
  congr 1
  rw [List.filter_map, List.map_map, List.map_map]
  have : (fun p : P2 => decide (p.2 = minI (cs.map (·.2)) + t.2)) ∘ mvd t = fun p => decide (p.2 = minI (cs.map (·.2))) := by
    funext p
    show decide (p.2 + t.2 = minI (cs.map (·.2)) + t.2) = _
    congr 1
    exact propext ⟨fun z => by omega, fun z => by omega⟩
  rw [this]
  rfl
theorem rimR_mvd (t : P2) (cs : List P2) (many : Nat) : ∀ (n : Nat) (here : P2) (w : List Nat) (seen : List P2), rimR (cs.map (mvd t)) many n (mvd t here) w (seen.map (mvd t)) = (rimR cs many n here w seen).map fun r => (mvd t r.1, r.2.1, r.2.2.map (mvd t))
  | 0, _, _, _ => rfl
  | n + 1, here, w, seen => by
    unfold rimR
    simp only [mem_mvd, ways_mvd]
    by_cases hc : here ∉ seen ∧ w.length < many
    · rw [if_pos hc, if_pos hc]
      cases one (waysM cs here) with
      | none => rfl
      | some c =>
        have ih := rimR_mvd t cs many n (go1 here c) (w ++ [c]) (seen ++ [here])
        rw [Option.bind_some, Option.bind_some, go_mvd, ← ih, List.map_append]
        rfl
    · rw [if_neg hc, if_neg hc]
      rfl
theorem rim_mvd (t : P2) {cs : List P2} (h : cs ≠ []) : rimM (cs.map (mvd t)) = rimM cs := by
  unfold rimM
  rw [many_mvd, beg_mvd t h]
  have := rimR_mvd t cs (manyM cs cs) (manyM cs cs + 1) (begM cs) [] []
  rw [List.map_nil] at this
  rw [this]
  cases rimR cs (manyM cs cs) (manyM cs cs + 1) (begM cs) [] [] with
  | none => rfl
  | some r =>
    obtain ⟨h', w', sn'⟩ := r
    simp only [Option.map_some]
    have : (List.head? (sn'.map (mvd t)) = some (mvd t h')) ↔ (sn'.head? = some h') := by
      cases sn' with
      | nil => simp
      | cons s sn => simp [mvd_inj]
    simp only [this]
end Cm

/-! The program's own floor, by pairs. -/
namespace Cm
open PySem PySem.Spec L2 Dl
theorem first_corner_eq {cs : List P2} {δ : List Int} (h : cs ≠ []) (hl : cs.length < 1000000) : G_p_first_corner [.lst (cs.map pD)] δ = some (pD (begM cs), δ) := by
  refine runG_r ?_
  show g_p_first_corner [.val (.lst (cs.map pD)), .un, .un, .un] δ = _
  unfold g_p_first_corner
  have hne : (cs.filter fun p => decide (p.2 = minI (cs.map (·.2)))).map (·.1) ≠ [] := by
    intro z
    have := List.filter_eq_nil_iff.mp (List.map_eq_nil_iff.mp z) _ (begM_mem h)
    exact this (decide_eq_true rfl)
  have a1 : (cs.map pD).map (fun x => match x with | .tup [_, y] => y | _ => .non) = (cs.map (·.2)).map .int := by
    simp only [List.map_map]
    rfl
  have a2 : ((cs.map pD).filter (fun x => match x with | .tup [_, .int y] => decide (y = minI (cs.map (·.2))) | _ => false)).map (fun x => match x with | .tup [y, _] => y | _ => .non) = ((cs.filter fun p => decide (p.2 = minI (cs.map (·.2)))).map (·.1)).map .int := by
    simp only [List.filter_map, List.map_map]
    rfl
  apply gSeq_n
  · apply gAsg_s
    · apply eB_s
      · apply aCons_s
        · apply eF_s
          apply fLc_s
          · exact iLst_s (eVar_s rfl)
          · simpa using hl
          · exact rfl
          · apply lc_map (φ := fun x => match x with | .tup [_, y] => y | _ => .non)
            intro x hx
            obtain ⟨p, _, rfl⟩ := List.mem_map.mp hx
            exact ⟨_, rfl, eYes_s, eVar_s rfl⟩
        · exact aNil_s
      · rw [a1]
        exact dMin_s (by simpa using h)
    · exact rfl
  · apply gRet_s
    apply eTup_s
    · apply aCons_s
      · apply eB_s
        · apply aCons_s
          · apply eF_s
            apply fLc_s
            · exact iLst_s (eVar_s rfl)
            · simpa using hl
            · exact rfl
            · apply lc_filter (φ := fun x => match x with | .tup [y, _] => y | _ => .non) (p := fun x => match x with | .tup [_, .int y] => decide (y = minI (cs.map (·.2))) | _ => false)
              intro x hx
              obtain ⟨p, _, rfl⟩ := List.mem_map.mp hx
              exact ⟨_, rfl, eTest_s (eOp_s (eVar_s rfl) (eVar_s rfl) dEq_i), eVar_s rfl⟩
          · exact aNil_s
        · rw [a2]
          exact dMin_s hne
      · apply aCons_s
        · exact eVar_s rfl
        · exact aNil_s
    · simp
/-! A rim does not hang on the order. -/
theorem out_perm {cs ds : List P2} (h : ∀ p, p ∈ cs ↔ p ∈ ds) (p : P2) : outM cs p = outM ds p := by
  unfold outM
  congr 1
  exact List.filter_congr fun q _ => by simp only [h]
theorem many_all {cs ds : List P2} (h : ∀ p, p ∈ cs ↔ p ∈ ds) : ∀ l : List P2, manyM cs l = manyM ds l
  | [] => rfl
  | p :: l => by simp only [manyM, out_perm h p, many_all h l]
theorem many_perm {all : List P2} {l m : List P2} (h : l.Perm m) : manyM all l = manyM all m := by
  induction h with
  | nil => rfl
  | cons p _ ih => simp only [manyM, ih]
  | swap p q l => simp only [manyM]; omega
  | trans _ _ a b => exact a.trans b
theorem ways_perm {cs ds : List P2} (h : ∀ p, p ∈ cs ↔ p ∈ ds) (p : P2) : waysM cs p = waysM ds p := by
  unfold waysM
  refine List.filter_congr fun c _ => ?_
  unfold okW
  simp only [h]
theorem min_perm {l m : List Int} (h : l.Perm m) (hl : l ≠ []) : minI l = minI m := by
  have hm : m ≠ [] := fun z => hl (by rw [z] at h; exact h.eq_nil)
  exact Int.le_antisymm (minI_le _ (h.mem_iff.mpr (minI_mem hm))) (minI_le _ (h.mem_iff.mp (minI_mem hl)))
theorem beg_perm {cs ds : List P2} (h : cs.Perm ds) (hc : cs ≠ []) : begM cs = begM ds := by
  have h2 : minI (cs.map (·.2)) = minI (ds.map (·.2)) := min_perm (h.map _) (by simpa using hc)
  have hne : (cs.filter fun p => decide (p.2 = minI (cs.map (·.2)))).map (·.1) ≠ [] := by
    intro z
    exact List.filter_eq_nil_iff.mp (List.map_eq_nil_iff.mp z) _ (begM_mem hc) (decide_eq_true rfl)
  unfold begM
  refine Prod.ext ?_ h2
  show minI _ = minI _
  rw [min_perm ((h.filter _).map _) hne, h2]
theorem rimR_perm {cs ds : List P2} (h : ∀ p, p ∈ cs ↔ p ∈ ds) (many : Nat) : ∀ (n : Nat) (here : P2) (w : List Nat) (seen : List P2), rimR cs many n here w seen = rimR ds many n here w seen
  | 0, _, _, _ => rfl
  | n + 1, here, w, seen => by
    unfold rimR
    rw [ways_perm h]
    have : (fun c => rimR cs many n (go1 here c) (w ++ [c]) (seen ++ [here])) = fun c => rimR ds many n (go1 here c) (w ++ [c]) (seen ++ [here]) := funext fun c => rimR_perm h many n _ _ _
    rw [this]
theorem rim_perm {cs ds : List P2} (h : cs.Perm ds) (hc : cs ≠ []) : rimM cs = rimM ds := by
  have hm : manyM cs cs = manyM ds ds := (many_all (fun p => h.mem_iff) cs).trans (many_perm h)
  unfold rimM
  rw [hm, beg_perm h hc, rimR_perm (fun p => h.mem_iff)]
end Cm

/-! The program's rim_steps, by pairs. -/
namespace Cm
open PySem PySem.Spec L2 Dl
def kp (p : P2) : List Key := [.inl p.1, .inl p.2]
theorem kp_inj {p q : P2} : kp p = kp q ↔ p = q := by
  unfold kp
  constructor
  · intro h
    injection h with h1 h2
    injection h1 with h1
    injection h2 with h2
    injection h2 with h2
    exact Prod.ext h1 h2
  · rintro rfl
    rfl
theorem keyD_p (p : P2) : keyD (pD p) = some (kp p) := rfl
theorem ofKeys_p (p : P2) : ofKeys (kp p) = pD p := rfl
theorem getA_some {α : Type} {q : P2} : ∀ {cs : List P2} {xs : List α}, cs.length = xs.length → (getA (cs.map kp) xs (kp q)).isSome = decide (q ∈ cs)
  | [], _, _ => by simp [getA]
  | _ :: _, [], e => by cases e
  | p :: cs, x :: xs, e => by
    rw [List.map_cons]
    unfold getA
    by_cases h : p = q
    · rw [if_pos (by rw [h]), h]
      simp
    · rw [if_neg (fun z => h (kp_inj.mp z)), getA_some (by simpa using e)]
      have : q ≠ p := fun z => h z.symm
      simp [this]
theorem putA_new {α : Type} {q : P2} {cs : List P2} {xs : List α} {x : α} (h : q ∉ cs) : putA (cs.map kp) xs (kp q) x = ((cs ++ [q]).map kp, xs ++ [x]) := by
  unfold putA
  rw [if_neg, List.map_append]
  · rfl
  · intro z
    obtain ⟨k, hk, e⟩ := List.any_eq_true.mp z
    obtain ⟨p, hp, rfl⟩ := List.mem_map.mp hk
    exact h (kp_inj.mp (of_decide_eq_true e) ▸ hp)
theorem forD_c {gd : GT} {b : Sg} {x : Dat} {xs : List Dat} {env e1 e2 : Ev} {δ δ1 : List Int} {o : Out} (h1 : gd x env = some e1) (h2 : b e1 δ = some (.ct e2 δ1)) (h3 : forD gd b xs e2 δ1 = some o) : forD gd b (x :: xs) env δ = some o := by
  unfold forD
  rw [h1, Option.bind_some, h2]
  exact h3
theorem gPutT_s {j : Nat} {f g : E} {env : Ev} {δ δ1 δ2 : List Int} {x : Dat} {q : P2} {cs : List P2} {l : List Dat} (h1 : f env δ = some (x, δ1)) (h2 : g env δ1 = some (pD q, δ2)) (h3 : env[j]? = some (.own (.dT (cs.map kp), l))) (h4 : cs.length = l.length) (h5 : cs.length < 1000000) (h6 : q ∉ cs) :
    gPutT j f g env δ = some (.nx (env.set j (.own (.dT ((cs ++ [q]).map kp), l ++ [x]))) δ2) := by
  unfold gPutT
  rw [h1, Option.bind_some, h2, Option.bind_some, h3]
  simp only
  rw [if_pos ⟨by rw [List.length_map]; exact h5, by rw [List.length_map]; exact h4⟩, keyD_p, Option.map_some, putA_new h6]
abbrev Sd := Nat × P2 × P2
def SD : List Sd := [(101, (0, 0), (0, -1)), (110, (1, 0), (1, 0)), (119, (1, 1), (0, 1)), (115, (0, 1), (-1, 0))]
def sideD (s : Sd) : Dat := .ctup [ltr s.1, .ctup [.int s.2.1.1, .int s.2.1.2], .ctup [.int s.2.2.1, .int s.2.2.2]]
theorem sides_eq : tup_SIDES = .ctup (SD.map sideD) := by
  unfold tup_SIDES
  rw [e_S, n_S, w_S, s_S]
  rfl
def newS (cs : List P2) (p : P2) (ss : List Sd) : List (P2 × Nat) := (ss.filter fun s => decide ((p.1 + s.2.2.1, p.2 + s.2.2.2) ∉ cs)).map fun s => ((p.1 + s.2.1.1, p.2 + s.2.1.2), s.1)
theorem din_s {neg : Bool} {f g : E} {env : Ev} {δ δ1 δ2 : List Int} {q : P2} {d : Dat} {cs : List P2} {xs : List Dat} (h1 : g env δ = some (pD q, δ1)) (h2 : f env δ1 = some (d, δ2)) (h3 : dctD d = some (cs.map kp, xs)) (hl : cs.length = xs.length) : eDin neg g f env δ = some (.bl (cond neg (!decide (q ∈ cs)) (decide (q ∈ cs))), δ2) := by
  unfold eDin
  rw [h1, Option.bind_some, h2, Option.bind_some, h3, Option.bind_some, keyD_p, Option.map_some]
  simp only [getA_some hl]
theorem steps_in {cs : List P2} {vs : List Dat} {p : P2} {δ : List Int} (hv : cs.length = vs.length) : ∀ (ss : List Sd) (acc : List (P2 × Nat)) (s4 s5 s6 s7 s8 s9 : Dl.Slot), ((acc ++ newS cs p ss).map (·.1)).Nodup → acc.length + ss.length < 1000 →
    ∃ t4 t5 t6 t7 t8 t9, forD (tgTup 3 (tgCons (tgName 4) (tgCons (tgTup 2 (tgCons (tgName 5) (tgCons (tgName 6) tgNil))) (tgCons (tgTup 2 (tgCons (tgName 7) (tgCons (tgName 8) tgNil))) tgNil)))) b_p_rim_steps_1 (ss.map sideD) [.val (.dT (cs.map kp) vs), .own (.dT ((acc.map (·.1)).map kp), (acc.map (·.2)).map ltr), .val (.int p.1), .val (.int p.2), s4, s5, s6, s7, s8, s9] δ =
      some (.nx [.val (.dT (cs.map kp) vs), .own (.dT (((acc ++ newS cs p ss).map (·.1)).map kp), ((acc ++ newS cs p ss).map (·.2)).map ltr), .val (.int p.1), .val (.int p.2), t4, t5, t6, t7, t8, t9] δ)
  | [], acc, s4, s5, s6, s7, s8, s9, _, _ => ⟨s4, s5, s6, s7, s8, s9, by simp [forD, newS]⟩
  | s :: ss, acc, s4, s5, s6, s7, s8, s9, nd, hz => by
    have hz : acc.length + (ss.length + 1) < 1000 := by simpa using hz
    have t1 := eTest_s (din_s (neg := false) (δ := δ) (cs := cs) (xs := vs) (q := (p.1 + s.2.2.1, p.2 + s.2.2.2)) (g := eTup (aCons (eOp dAdd (eVar 2) (eVar 7)) (aCons (eOp dAdd (eVar 3) (eVar 8)) aNil))) (f := eVar 0)
      (env := [.val (.dT (cs.map kp) vs), .own (.dT ((acc.map (·.1)).map kp), (acc.map (·.2)).map ltr), .val (.int p.1), .val (.int p.2), .val (ltr s.1), .val (.int s.2.1.1), .val (.int s.2.1.2), .val (.int s.2.2.1), .val (.int s.2.2.2), s9])
      (eTup_s (aCons_s (eOp_s (eVar_s rfl) (eVar_s rfl) dAdd_i) (aCons_s (eOp_s (eVar_s rfl) (eVar_s rfl) dAdd_i) aNil_s)) (by simp)) (eVar_s rfl) rfl hv)
    rw [List.map_cons]
    by_cases h : (p.1 + s.2.2.1, p.2 + s.2.2.2) ∈ cs
    · have e0 : newS cs p (s :: ss) = newS cs p ss := by
        unfold newS
        rw [List.filter_cons_of_neg (by simp [h])]
      rw [e0] at nd ⊢
      obtain ⟨t4, t5, t6, t7, t8, t9, e⟩ := steps_in (p := p) (δ := δ) hv ss acc (.val (ltr s.1)) (.val (.int s.2.1.1)) (.val (.int s.2.1.2)) (.val (.int s.2.2.1)) (.val (.int s.2.2.2)) s9 nd (by omega)
      refine ⟨t4, t5, t6, t7, t8, t9, forD_c rfl ?_ e⟩
      unfold b_p_rim_steps_1
      apply gSeq_c
      apply gIf_t
      · rw [decide_eq_true h] at t1
        exact t1
      · rfl
    · have e0 : newS cs p (s :: ss) = ((p.1 + s.2.1.1, p.2 + s.2.1.2), s.1) :: newS cs p ss := by
        unfold newS
        rw [List.filter_cons_of_pos (by simp [h])]
        rfl
      rw [e0] at nd ⊢
      have e1 : acc ++ ((p.1 + s.2.1.1, p.2 + s.2.1.2), s.1) :: newS cs p ss = (acc ++ [((p.1 + s.2.1.1, p.2 + s.2.1.2), s.1)]) ++ newS cs p ss := by simp
      rw [e1] at nd ⊢
      have fresh : (p.1 + s.2.1.1, p.2 + s.2.1.2) ∉ acc.map (·.1) := by
        rw [List.map_append, List.map_append] at nd
        have := (List.nodup_append.mp (List.nodup_append.mp nd).1).2.2
        exact fun z => this _ z _ (by simp) rfl
      obtain ⟨t4, t5, t6, t7, t8, t9, e⟩ := steps_in (p := p) (δ := δ) hv ss (acc ++ [((p.1 + s.2.1.1, p.2 + s.2.1.2), s.1)]) (.val (ltr s.1)) (.val (.int s.2.1.1)) (.val (.int s.2.1.2)) (.val (.int s.2.2.1)) (.val (.int s.2.2.2)) (.val (pD (p.1 + s.2.1.1, p.2 + s.2.1.2))) nd (by simp; omega)
      refine ⟨t4, t5, t6, t7, t8, t9, forD_n rfl ?_ e⟩
      unfold b_p_rim_steps_1
      apply gSeq_n
      · apply gIf_f
        · rw [decide_eq_false h] at t1
          exact t1
        · exact gNext_s
      apply gSeq_n
      · exact gAsg_s (eTup_s (aCons_s (eOp_s (eVar_s rfl) (eVar_s rfl) dAdd_i) (aCons_s (eOp_s (eVar_s rfl) (eVar_s rfl) dAdd_i) aNil_s)) (by simp)) rfl
      have lenA : (acc.map (·.1)).length = ((acc.map (·.2)).map ltr).length := by simp
      have t2 := eTest_s (din_s (neg := false) (δ := δ) (cs := acc.map (·.1)) (xs := (acc.map (·.2)).map ltr) (q := (p.1 + s.2.1.1, p.2 + s.2.1.2)) (g := eVar 9) (f := eVarB 1) (d := .dT ((acc.map (·.1)).map kp) ((acc.map (·.2)).map ltr))
        (env := [.val (.dT (cs.map kp) vs), .own (.dT ((acc.map (·.1)).map kp), (acc.map (·.2)).map ltr), .val (.int p.1), .val (.int p.2), .val (ltr s.1), .val (.int s.2.1.1), .val (.int s.2.1.2), .val (.int s.2.2.1), .val (.int s.2.2.2), .val (pD (p.1 + s.2.1.1, p.2 + s.2.1.2))])
        (eVar_s rfl) (by unfold eVarB; rfl) rfl lenA)
      rw [decide_eq_false fresh] at t2
      apply gSeq_n
      · exact gIf_f t2 gNext_s
      · rw [show (acc ++ [((p.1 + s.2.1.1, p.2 + s.2.1.2), s.1)]).map (·.1) = acc.map (·.1) ++ [(p.1 + s.2.1.1, p.2 + s.2.1.2)] by simp, show ((acc ++ [((p.1 + s.2.1.1, p.2 + s.2.1.2), s.1)]).map (·.2)).map ltr = (acc.map (·.2)).map ltr ++ [ltr s.1] by simp]
        exact gPutT_s (eVar_s rfl) (eVar_s rfl) rfl lenA (by rw [List.length_map]; omega) fresh
/-- all sides: each corner with its letter -/
def sidesL (cs : List P2) : List P2 → List (P2 × Nat)
  | [] => []
  | p :: r => newS cs p SD ++ sidesL cs r
theorem newS_len {cs : List P2} {p : P2} {ss : List Sd} : (newS cs p ss).length ≤ ss.length := by
  unfold newS
  rw [List.length_map]
  exact List.length_filter_le _ _
theorem steps_out {cs : List P2} {vs : List Dat} {δ : List Int} (hv : cs.length = vs.length) : ∀ (rs : List P2) (acc : List (P2 × Nat)) (s2 s3 s4 s5 s6 s7 s8 s9 : Dl.Slot), ((acc ++ sidesL cs rs).map (·.1)).Nodup → acc.length + 4 * rs.length < 900 →
    ∃ t2 t3 t4 t5 t6 t7 t8 t9, forD (tgTup 2 (tgCons (tgName 2) (tgCons (tgName 3) tgNil))) b_p_rim_steps_2 ((rs.map kp).map ofKeys) [.val (.dT (cs.map kp) vs), .own (.dT ((acc.map (·.1)).map kp), (acc.map (·.2)).map ltr), s2, s3, s4, s5, s6, s7, s8, s9] δ =
      some (.nx [.val (.dT (cs.map kp) vs), .own (.dT (((acc ++ sidesL cs rs).map (·.1)).map kp), ((acc ++ sidesL cs rs).map (·.2)).map ltr), t2, t3, t4, t5, t6, t7, t8, t9] δ)
  | [], acc, s2, s3, s4, s5, s6, s7, s8, s9, _, _ => ⟨s2, s3, s4, s5, s6, s7, s8, s9, by simp [forD, sidesL]⟩
  | p :: rs, acc, s2, s3, s4, s5, s6, s7, s8, s9, nd, hz => by
    have hz : acc.length + 4 * (rs.length + 1) < 900 := by simpa using hz
    have e1 : acc ++ sidesL cs (p :: rs) = (acc ++ newS cs p SD) ++ sidesL cs rs := by simp [sidesL]
    rw [e1] at nd ⊢
    have l1 : (newS cs p SD).length ≤ 4 := newS_len
    have nd1 : ((acc ++ newS cs p SD).map (·.1)).Nodup := by
      rw [List.map_append] at nd
      exact (List.nodup_append.mp nd).1
    obtain ⟨t4, t5, t6, t7, t8, t9, e⟩ := steps_in (p := p) (δ := δ) hv SD acc s4 s5 s6 s7 s8 s9 nd1 (by show acc.length + 4 < 1000; omega)
    obtain ⟨u2, u3, u4, u5, u6, u7, u8, u9, f⟩ := steps_out (δ := δ) hv rs (acc ++ newS cs p SD) (.val (.int p.1)) (.val (.int p.2)) t4 t5 t6 t7 t8 t9 nd (by rw [List.length_append]; omega)
    refine ⟨u2, u3, u4, u5, u6, u7, u8, u9, ?_⟩
    rw [List.map_cons, List.map_cons, ofKeys_p]
    refine forD_n rfl ?_ f
    unfold b_p_rim_steps_2
    apply gFor_s
    · show iTupD (eC tup_SIDES) _ _ = some (SD.map sideD, δ)
      unfold iTupD
      rw [sides_eq]
      rfl
    · exact e
theorem rim_steps_eq {cs : List P2} {vs : List Dat} {δ : List Int} (hv : cs.length = vs.length) (nd : ((sidesL cs cs).map (·.1)).Nodup) (hz : cs.length < 200) :
    G_p_rim_steps [.dT (cs.map kp) vs] δ = some (.dT (((sidesL cs cs).map (·.1)).map kp) (((sidesL cs cs).map (·.2)).map ltr), δ) := by
  obtain ⟨t2, t3, t4, t5, t6, t7, t8, t9, e⟩ := steps_out (δ := δ) hv cs [] .un .un .un .un .un .un .un .un (by simpa using nd) (by simp only [List.length_nil]; omega)
  refine runG_r ?_
  show g_p_rim_steps [.val (.dT (cs.map kp) vs), .un, .un, .un, .un, .un, .un, .un, .un, .un] δ = _
  unfold g_p_rim_steps
  apply gSeq_n (e1 := [.val (.dT (cs.map kp) vs), .own (.dT [], []), .un, .un, .un, .un, .un, .un, .un, .un]) (δ1 := δ)
  · rfl
  · apply gSeq_n
    · exact e
    · rfl
end Cm

/-! Where the law finds one way around, no corner is left twice. -/
namespace Cm
open PySem PySem.Spec L2 Dl
theorem mem_new {cs : List P2} {p q : P2} {c : Nat} : (q, c) ∈ newS cs p SD ↔ L4 c ∧ lcell q c = p ∧ rcell q c ∉ cs := by
  unfold newS SD
  rw [List.mem_map]
  constructor
  · rintro ⟨s, hs, e⟩
    obtain ⟨h1, h2⟩ := List.mem_filter.mp hs
    have h2 := of_decide_eq_true h2
    simp only [List.mem_cons, List.not_mem_nil, or_false] at h1
    rcases h1 with rfl | rfl | rfl | rfl <;> cases e
    · exact ⟨.inl rfl, Prod.ext (Int.add_zero _) (Int.add_zero _), by simpa [rcell, Int.add_zero, Int.sub_eq_add_neg] using h2⟩
    · refine ⟨.inr (.inl rfl), Prod.ext (by show p.1 + 1 - 1 = p.1; omega) (Int.add_zero _), ?_⟩
      simpa [rcell] using h2
    · refine ⟨.inr (.inr (.inl rfl)), Prod.ext (by show p.1 + 1 - 1 = p.1; omega) (by show p.2 + 1 - 1 = p.2; omega), ?_⟩
      have : rcell (p.1 + 1, p.2 + 1) 119 = (p.1 + 0, p.2 + 1) := Prod.ext (by show p.1 + 1 - 1 = p.1 + 0; omega) rfl
      rw [this]
      exact h2
    · refine ⟨.inr (.inr (.inr rfl)), Prod.ext (Int.add_zero _) (by show p.2 + 1 - 1 = p.2; omega), ?_⟩
      have : rcell (p.1 + 0, p.2 + 1) 115 = (p.1 + -1, p.2 + 0) := Prod.ext (by show p.1 + 0 - 1 = p.1 + -1; omega) (by show p.2 + 1 - 1 = p.2 + 0; omega)
      rw [this]
      exact h2
  · rintro ⟨hc, rfl, hr⟩
    rcases hc with rfl | rfl | rfl | rfl
    · exact ⟨(101, (0, 0), (0, -1)), List.mem_filter.mpr ⟨by simp, decide_eq_true (by simpa [lcell, rcell, Int.sub_eq_add_neg] using hr)⟩, by simp [lcell]⟩
    · refine ⟨(110, (1, 0), (1, 0)), List.mem_filter.mpr ⟨by simp, decide_eq_true ?_⟩, ?_⟩
      · have : ((lcell q 110).1 + 1, (lcell q 110).2 + 0) = rcell q 110 := Prod.ext (by show q.1 - 1 + 1 = q.1; omega) (Int.add_zero _)
        show ((lcell q 110).1 + 1, (lcell q 110).2 + 0) ∉ cs
        rw [this]; exact hr
      · exact Prod.ext (Prod.ext (by show q.1 - 1 + 1 = q.1; omega) (Int.add_zero _)) rfl
    · refine ⟨(119, (1, 1), (0, 1)), List.mem_filter.mpr ⟨by simp, decide_eq_true ?_⟩, ?_⟩
      · have : ((lcell q 119).1 + 0, (lcell q 119).2 + 1) = rcell q 119 := Prod.ext (Int.add_zero _) (by show q.2 - 1 + 1 = q.2; omega)
        show ((lcell q 119).1 + 0, (lcell q 119).2 + 1) ∉ cs
        rw [this]; exact hr
      · exact Prod.ext (Prod.ext (by show q.1 - 1 + 1 = q.1; omega) (by show q.2 - 1 + 1 = q.2; omega)) rfl
    · refine ⟨(115, (0, 1), (-1, 0)), List.mem_filter.mpr ⟨by simp, decide_eq_true ?_⟩, ?_⟩
      · have : ((lcell q 115).1 + -1, (lcell q 115).2 + 0) = rcell q 115 := Prod.ext (by show q.1 + -1 = q.1 - 1; omega) (by show q.2 - 1 + 0 = q.2 - 1; omega)
        show ((lcell q 115).1 + -1, (lcell q 115).2 + 0) ∉ cs
        rw [this]; exact hr
      · exact Prod.ext (Prod.ext (Int.add_zero _) (by show q.2 - 1 + 1 = q.2; omega)) rfl
theorem mem_sides {cs : List P2} {q : P2} {c : Nat} : ∀ {rs : List P2}, (q, c) ∈ sidesL cs rs ↔ L4 c ∧ lcell q c ∈ rs ∧ rcell q c ∉ cs
  | [] => by simp [sidesL]
  | p :: rs => by
    unfold sidesL
    rw [List.mem_append, mem_new, mem_sides, List.mem_cons]
    constructor
    · rintro (⟨a, b, d⟩ | ⟨a, b, d⟩)
      · exact ⟨a, .inl b, d⟩
      · exact ⟨a, .inr b, d⟩
    · rintro ⟨a, b | b, d⟩
      · exact .inl ⟨a, b, d⟩
      · exact .inr ⟨a, b, d⟩
theorem sides_ways {cs : List P2} {q : P2} {c : Nat} : (q, c) ∈ sidesL cs cs ↔ c ∈ waysM cs q := by
  rw [mem_sides]
  unfold waysM okW
  rw [List.mem_filter, Bool.and_eq_true, decide_eq_true_iff, decide_eq_true_iff]
  unfold L4
  simp only [List.mem_cons, List.not_mem_nil, or_false]
theorem new_nodup {cs : List P2} {p : P2} : (newS cs p SD).Nodup := by
  unfold newS
  refine List.Pairwise.map _ (fun a b ne e => ne e) ((List.Pairwise.filter _ (?_ : SD.Pairwise fun a b => ((p.1 + a.2.1.1, p.2 + a.2.1.2), a.1) ≠ ((p.1 + b.2.1.1, p.2 + b.2.1.2), b.1))))
  unfold SD
  simp
theorem sides_nodup {cs : List P2} : ∀ {rs : List P2}, rs.Nodup → (sidesL cs rs).Nodup
  | [], _ => List.nodup_nil
  | p :: rs, h => by
    have ⟨h1, h2⟩ := List.nodup_cons.mp h
    unfold sidesL
    refine List.nodup_append.mpr ⟨new_nodup, sides_nodup h2, fun a ha b hb e => ?_⟩
    subst e
    have a1 := (mem_new (q := a.1) (c := a.2)).mp ha
    have a2 := (mem_sides (q := a.1) (c := a.2)).mp hb
    exact h1 (a1.2.1 ▸ a2.2.1)
theorem new_len {cs : List P2} {p : P2} : (newS cs p SD).length = outM cs p := by
  unfold newS outM SD nearM
  rw [List.length_map]
  simp only [List.filter_cons, List.filter_nil]
  have e1 : ((p.1 + 0, p.2 + -1) : P2) = (p.1, p.2 - 1) := Prod.ext (Int.add_zero _) rfl
  have e2 : ((p.1 + 1, p.2 + 0) : P2) = (p.1 + 1, p.2) := Prod.ext rfl (Int.add_zero _)
  have e3 : ((p.1 + 0, p.2 + 1) : P2) = (p.1, p.2 + 1) := Prod.ext (Int.add_zero _) rfl
  have e4 : ((p.1 + -1, p.2 + 0) : P2) = (p.1 - 1, p.2) := Prod.ext rfl (Int.add_zero _)
  rw [e1, e2, e3, e4]
  by_cases h1 : ((p.1, p.2 - 1) : P2) ∈ cs <;> by_cases h2 : ((p.1 + 1, p.2) : P2) ∈ cs <;> by_cases h3 : ((p.1, p.2 + 1) : P2) ∈ cs <;> by_cases h4 : ((p.1 - 1, p.2) : P2) ∈ cs <;> simp [h1, h2, h3, h4]
theorem sides_len {cs : List P2} : ∀ rs : List P2, (sidesL cs rs).length = manyM cs rs
  | [] => rfl
  | p :: rs => by
    simp only [sidesL, manyM, List.length_append, new_len, sides_len rs]
end Cm

namespace Cm
open PySem PySem.Spec L2 Dl
theorem perm_of_sub {α : Type} [DecidableEq α] : ∀ {l m : List α}, l.Nodup → (∀ x ∈ l, x ∈ m) → m.length ≤ l.length → l.Perm m
  | [], m, _, _, h => by
    have : m = [] := List.length_eq_zero_iff.mp (by simpa using h)
    rw [this]
  | x :: l, m, hn, hs, h => by
    have ⟨h1, h2⟩ := List.nodup_cons.mp hn
    have hx : x ∈ m := hs x List.mem_cons_self
    have len := List.length_erase_of_mem hx
    have ih := perm_of_sub (l := l) (m := m.erase x) h2 (fun y hy => (List.mem_erase_of_ne (a := y) (b := x) (fun z => h1 (by rw [← z]; exact hy))).mpr (hs y (List.mem_cons_of_mem _ hy))) (by rw [len]; simp at h; omega)
    exact (ih.cons x).trans (List.perm_cons_erase hx).symm
theorem nodup_map {α β : Type} {f : α → β} : ∀ {l : List α}, (l.map f).Nodup → l.Nodup
  | [], _ => List.nodup_nil
  | x :: l, h => by
    have ⟨h1, h2⟩ := List.nodup_cons.mp h
    exact List.nodup_cons.mpr ⟨fun z => h1 (List.mem_map.mpr ⟨x, z, rfl⟩), nodup_map h2⟩
theorem rimR_trace {all : List P2} {many : Nat} : ∀ {n : Nat} {here : P2} {w : List Nat} {seen : List P2} {h' : P2} {w' : List Nat} {sn' : List P2}, rimR all many n here w seen = some (h', w', sn') → seen.length = w.length →
    (∀ x ∈ seen.zip w, waysM all x.1 = [x.2]) → seen.Nodup → (∀ x ∈ sn'.zip w', waysM all x.1 = [x.2]) ∧ sn'.Nodup
  | 0, _, _, _, _, _, _, e, _, _, _ => by cases e
  | n + 1, here, w, seen, h', w', sn', e, hl, hz, nd => by
    unfold rimR at e
    by_cases hc : here ∉ seen ∧ w.length < many
    · rw [if_pos hc] at e
      cases ho : one (waysM all here) with
      | none => rw [ho] at e; cases e
      | some c =>
        rw [ho] at e
        refine rimR_trace (show rimR all many n (go1 here c) (w ++ [c]) (seen ++ [here]) = some (h', w', sn') from e) (by simp [hl]) (fun x hx => ?_) (List.nodup_append.mpr ⟨nd, by simp, fun a ha b hb z => hc.1 (by rw [← List.mem_singleton.mp hb, ← z]; exact ha)⟩)
        rw [List.zip_append hl] at hx
        rcases List.mem_append.mp hx with hx | hx
        · exact hz x hx
        · have : x = (here, c) := by simpa using hx
          rw [this]
          exact one_some ho
    · rw [if_neg hc] at e
      cases e
      exact ⟨hz, nd⟩
/-- the way around takes every side -/
theorem rim_all {cs : List P2} {w : List Nat} (nd : cs.Nodup) (h : rimM cs = some w) : ∃ sn : List P2, sn.length = w.length ∧ sn.Nodup ∧ (sn.zip w).Perm (sidesL cs cs) ∧ (∀ x ∈ sn.zip w, waysM cs x.1 = [x.2]) ∧ w.length = manyM cs cs ∧ ∃ h', rimR cs (manyM cs cs) (manyM cs cs + 1) (begM cs) [] [] = some (h', w, sn) ∧ sn.head? = some h' := by
  unfold rimM at h
  cases hr : rimR cs (manyM cs cs) (manyM cs cs + 1) (begM cs) [] [] with
  | none => rw [hr] at h; cases h
  | some r =>
    obtain ⟨h', w', sn⟩ := r
    rw [hr] at h
    have h : (if sn.head? = some h' ∧ w'.length = manyM cs cs then some w' else none) = some w := h
    split at h
    · rename_i hc
      have hww := Option.some.inj h
      subst hww
      have hl := (rimR_spec hr).1 rfl
      have ⟨t1, t2⟩ := rimR_trace hr rfl (fun x hx => by simp at hx) List.nodup_nil
      have f : (sn.zip w').map (·.1) = sn := List.map_fst_zip (by omega)
      refine ⟨sn, hl, t2, perm_of_sub (nodup_map (f := (·.1)) (by rw [f]; exact t2)) (fun x hx => ?_) ?_, t1, hc.2, h', rfl, hc.1⟩
      · exact (sides_ways (q := x.1) (c := x.2)).mpr (by rw [t1 x hx]; exact List.mem_cons_self)
      · rw [sides_len, List.length_zip, hl, Nat.min_self, hc.2]
        exact Nat.le_refl _
    · cases h
theorem corners_once {cs : List P2} {w : List Nat} (nd : cs.Nodup) (h : rimM cs = some w) : ((sidesL cs cs).map (·.1)).Nodup := by
  obtain ⟨sn, hl, n1, hp, _⟩ := rim_all nd h
  refine ((hp.map (·.1)).nodup_iff).mp ?_
  rw [List.map_fst_zip (by omega)]
  exact n1
end Cm

/-! The program's rim_word walks the law's way. -/
namespace Cm
open PySem PySem.Spec L2 Dl
def walkM (q : P2) : List Nat → List P2
  | [] => []
  | c :: v => q :: walkM (go1 q c) v
theorem rimR_walk {all : List P2} {many : Nat} : ∀ {n : Nat} {here : P2} {w : List Nat} {seen : List P2} {h' : P2} {w' : List Nat} {sn' : List P2}, rimR all many n here w seen = some (h', w', sn') → ∃ v, w' = w ++ v ∧ sn' = seen ++ walkM here v ∧ h' = endM here v
  | 0, _, _, _, _, _, _, e => by cases e
  | n + 1, here, w, seen, h', w', sn', e => by
    unfold rimR at e
    by_cases hc : here ∉ seen ∧ w.length < many
    · rw [if_pos hc] at e
      cases ho : one (waysM all here) with
      | none => rw [ho] at e; cases e
      | some c =>
        rw [ho] at e
        obtain ⟨v, e1, e2, e3⟩ := rimR_walk (show rimR all many n (go1 here c) (w ++ [c]) (seen ++ [here]) = some (h', w', sn') from e)
        exact ⟨c :: v, by rw [e1]; simp, by rw [e2]; simp [walkM], by rw [e3]; rfl⟩
    · rw [if_neg hc] at e
      cases e
      exact ⟨[], by simp, by simp [walkM], rfl⟩
theorem getA_mem {q : P2} {c : Nat} : ∀ {L : List (P2 × Nat)}, (L.map (·.1)).Nodup → (q, c) ∈ L → getA ((L.map (·.1)).map kp) ((L.map (·.2)).map ltr) (kp q) = some (ltr c)
  | x :: L, nd, h => by
    have ⟨h1, h2⟩ := List.nodup_cons.mp nd
    simp only [List.map_cons]
    unfold getA
    rcases List.mem_cons.mp h with e | h
    · rw [← e, if_pos rfl]
    · rw [if_neg (fun z => h1 (List.mem_map.mpr ⟨(q, c), h, (kp_inj.mp z).symm⟩)), getA_mem h2 h]
theorem last_corner {p : P2} {c : Nat} {δ : List Int} (h : L4 c) {i j : Nat} {env : Ev} (h1 : env[i]? = some (.val (pD p))) (h2 : env[j]? = some (.val (ltr c))) :
    eOp dIx (eCall G_p_corners (["corner", "word"] : List Str).length (aCons (eVar i) (aCons (eVar j) aNil))) (eUn dNeg (eC (.int 1))) env δ = some (pD (go1 p c), δ) := by
  refine eOp_s (eCall_s (aCons_s (eVar_s h1) (aCons_s (eVar_s h2) aNil_s)) rfl (corners_eq (p := p) (w := [c]) (fun d hd => by rw [List.mem_singleton.mp hd]; exact h) (by simp))) (eUn_s (z := .int (-1)) eC_s rfl) ?_
  exact atI_neg1 (by simp [pathM])
theorem word_loop {first : P2} {ks : List (List Key)} {xs : List Dat} {δ : List Int} : ∀ (v : List Nat) (N : Nat) (q : P2) (acc : List Nat) (s4 : Dl.Slot), v.length < N → (∀ c ∈ v, L4 c) → (∀ x ∈ (walkM q v).zip v, getA ks xs (kp x.1) = some (ltr x.2)) → (∀ p ∈ walkM q v, p ≠ first) → endM q v = first → acc.length + v.length < 100000 →
    ∃ t4, whileD (eTest (eOp dNe (eVar 3) (eVar 0))) b_p_rim_word_1 N [.val (pD first), .val (.dT ks xs), .val (.str (S acc)), .val (pD q), s4] δ = some (.nx [.val (pD first), .val (.dT ks xs), .val (.str (S (acc ++ v))), .val (pD first), t4] δ)
  | _, 0, _, _, _, h, _, _, _, _, _ => by omega
  | [], N + 1, q, acc, s4, _, _, _, _, he, _ => by
    have he : q = first := he
    have t := eTest_s (eOp_s (δ := δ) (env := [.val (pD first), .val (.dT ks xs), .val (.str (S acc)), .val (pD q), s4]) (eVar_s (i := 3) rfl) (eVar_s (i := 0) rfl) (dNe_pr q first))
    rw [decide_eq_true he] at t
    refine ⟨s4, ?_⟩
    rw [List.append_nil]
    subst he
    exact while_f t
  | c :: v, N + 1, q, acc, s4, hN, h4, hg, hf, he, hz => by
    have hz : acc.length + (v.length + 1) < 100000 := by simpa using hz
    have hc := h4 c List.mem_cons_self
    have hq : q ≠ first := hf q List.mem_cons_self
    have hgq : getA ks xs (kp q) = some (ltr c) := hg (q, c) List.mem_cons_self
    have t := eTest_s (eOp_s (δ := δ) (env := [.val (pD first), .val (.dT ks xs), .val (.str (S acc)), .val (pD q), s4]) (eVar_s (i := 3) rfl) (eVar_s (i := 0) rfl) (dNe_pr q first))
    rw [decide_eq_false hq] at t
    obtain ⟨t4, e⟩ := word_loop (δ := δ) v N (go1 q c) (acc ++ [c]) (.val (ltr c)) (by simp at hN; omega) (fun d hd => h4 d (List.mem_cons_of_mem _ hd)) (fun x hx => hg x (List.mem_cons_of_mem _ hx)) (fun p hp => hf p (List.mem_cons_of_mem _ hp)) he (by simp; omega)
    refine ⟨t4, ?_⟩
    rw [show acc ++ c :: v = (acc ++ [c]) ++ v by simp]
    refine while_t t ?_ e
    unfold b_p_rim_word_1
    apply gSeq_n
    · apply gAsg_s (x := ltr c)
      · unfold eDctGet
        rw [eVar_s (i := 1) (x := .dT ks xs) rfl, Option.bind_some, eVar_s (i := 3) (x := pD q) rfl, Option.bind_some]
        show (getA ks xs (kp q)).map _ = _
        rw [hgq]
        rfl
      · exact rfl
    · apply gSeq_n
      · exact gAsg_s (x := .str (S (acc ++ [c]))) (eOp_s (eVar_s rfl) (eVar_s rfl) (by rw [dAdd_s (by rw [S_len, S_len]; simp; omega), S_app])) rfl
      · exact gAsg_s (last_corner hc rfl rfl) rfl
theorem rim_word_eq {cs : List P2} {w : List Nat} {δ : List Int} (hc : cs ≠ []) (nd : cs.Nodup) (hl : cs.length < 200) (h : rimM cs = some w) :
    G_p_rim_word [pD (begM cs), .dT (((sidesL cs cs).map (·.1)).map kp) (((sidesL cs cs).map (·.2)).map ltr)] δ = some (.str (S w), δ) := by
  have once := corners_once nd h
  obtain ⟨sn, hsl, sn1, hp, hw, hm, h', hr, hh⟩ := rim_all nd h
  have hm4 := manyM_le cs cs
  have hpos := many_pos hc
  have L := (rimR_spec hr).2.2.1 (fun c z => by cases z)
  obtain ⟨v, e1, e2, e3⟩ := rimR_walk hr
  rw [List.nil_append] at e1 e2
  subst e1
  subst e2
  have look : ∀ x ∈ (walkM (begM cs) w).zip w, getA (((sidesL cs cs).map (·.1)).map kp) (((sidesL cs cs).map (·.2)).map ltr) (kp x.1) = some (ltr x.2) := fun x hx => getA_mem (q := x.1) (c := x.2) once (hp.mem_iff.mp hx)
  cases w with
  | nil => simp at hm; omega
  | cons c v =>
    have hend : endM (go1 (begM cs) c) v = begM cs := by
      have : some (begM cs) = some h' := hh
      have e4 : endM (begM cs) (c :: v) = begM cs := by
        rw [← e3]
        exact (Option.some.inj this).symm
      exact e4
    have ⟨n1, n2⟩ := List.nodup_cons.mp sn1
    obtain ⟨t4, e⟩ := word_loop (first := begM cs) (δ := δ) v 100000 (go1 (begM cs) c) [c] .un (by simp at hm; omega) (fun d hd => L d (List.mem_cons_of_mem _ hd)) (fun x hx => look x (List.mem_cons_of_mem _ hx)) (fun p hp z => n1 (z ▸ hp)) hend (by simp at hm ⊢; omega)
    refine runG_r ?_
    show g_p_rim_word [.val (pD (begM cs)), .val (.dT (((sidesL cs cs).map (·.1)).map kp) (((sidesL cs cs).map (·.2)).map ltr)), .un, .un, .un] δ = _
    unfold g_p_rim_word
    have g1 := look (begM cs, c) List.mem_cons_self
    apply gSeq_n
    · apply gAsg_s (x := ltr c)
      · unfold eDctGet
        rw [eVar_s (i := 1) (x := .dT _ _) rfl, Option.bind_some, eVar_s (i := 0) (x := pD (begM cs)) rfl, Option.bind_some]
        show (getA _ _ (kp (begM cs))).map _ = _
        rw [g1]
        rfl
      · exact rfl
    apply gSeq_n
    · exact gAsg_s (last_corner (L c List.mem_cons_self) rfl rfl) rfl
    apply gSeq_n
    · exact e
    apply gSeq_n
    · apply gIf_f (δ1 := δ)
      · have t := eTest_s (eOp_s (δ := δ) (env := [.val (pD (begM cs)), .val (.dT (((sidesL cs cs).map (·.1)).map kp) (((sidesL cs cs).map (·.2)).map ltr)), .val (.str (S ([c] ++ v))), .val (pD (begM cs)), t4]) (eB_s (aCons_s (eVar_s (i := 2) rfl) aNil_s) (dLen_S (w := [c] ++ v) (by simp at hm ⊢; omega))) (eB_s (FC := dLenT) (z := .int (((sidesL cs cs).map (·.1)).map kp).length) (aCons_s (eVar_s (i := 1) rfl) aNil_s) rfl) dLt_i)
        have : ¬ ((([c] ++ v).length : Nat) : Int) < (((sidesL cs cs).map (·.1)).map kp).length := by
          rw [List.length_map, List.length_map, sides_len]
          have : (c :: v).length = manyM cs cs := hm
          simp at this ⊢
          omega
        rw [decide_eq_false this] at t
        exact t
      · exact gNext_s
    · exact gRet_s (eVar_s rfl)
end Cm

/-! Words that are reduced, plainly. -/
namespace Cm
open PySem PySem.Spec L2 Dl
abbrev L4s (w : List Nat) : Prop := ∀ c ∈ w, L4 c
theorem inv_L4 {w : List Nat} (h : L4s w) : L4s (invM w) := by
  intro c hc
  obtain ⟨d, hd, rfl⟩ := List.mem_map.mp hc
  exact back_L4 (h d (by simpa using hd))
theorem app_L4 {v w : List Nat} (hv : L4s v) (hw : L4s w) : L4s (v ++ w) := fun c hc => (List.mem_append.mp hc).elim (hv c) (hw c)
theorem red_L4 {w : List Nat} (h : L4s w) : L4s (redM w) := by
  intro c hc
  exact redR_L4 w [] (by simp) h c (by simpa [redM] using hc)
theorem red_len (w : List Nat) : (redM w).length ≤ w.length := by
  have := redR_len w []
  simpa [redM] using this
theorem inv_len (w : List Nat) : (invM w).length = w.length := by simp [invM]
theorem inv_app (v w : List Nat) : invM (v ++ w) = invM w ++ invM v := by simp [invM]
theorem inv_cons (a : Nat) (w : List Nat) : invM (a :: w) = invM w ++ [backM a] := by simp [invM]
theorem inv_inv : ∀ {w : List Nat}, L4s w → invM (invM w) = w
  | [], _ => rfl
  | a :: w, h => by
    rw [inv_cons, inv_app, inv_inv fun c hc => h c (List.mem_cons_of_mem _ hc)]
    show backM (backM a) :: w = _
    rw [back_back (h a List.mem_cons_self)]
/-! ### what goes along a word -/
section
variable {α : Type} {act : α → Nat → α} {P : α → Prop}
theorem back_fold (hB : ∀ x a, L4 a → P x → act (act x a) (backM a) = x) {x : α} {c : Nat} (hc : L4 c) (hx : P x) : act (act x (backM c)) c = x := by
  have := hB x (backM c) (back_L4 hc) hx
  rwa [back_back hc] at this
theorem fold_P (hP : ∀ x c, L4 c → P x → P (act x c)) : ∀ (w : List Nat) (x : α), L4s w → P x → P (w.foldl act x)
  | [], _, _, h => h
  | c :: w, x, hw, h => fold_P hP w (act x c) (fun d hd => hw d (List.mem_cons_of_mem _ hd)) (hP x c (hw c List.mem_cons_self) h)
theorem fold_push (hP : ∀ x c, L4 c → P x → P (act x c)) (hB : ∀ x a, L4 a → P x → act (act x a) (backM a) = x) {T : List Nat} {c : Nat} {x : α} (hT : L4s T) (hc : L4 c) (hx : P x) :
    (push T c).reverse.foldl act x = act (T.reverse.foldl act x) c := by
  cases T with
  | nil => rfl
  | cons t r =>
    have hr : L4s r.reverse := fun d hd => hT d (List.mem_cons_of_mem _ (by simpa using hd))
    unfold push
    split
    · rename_i u s e
      cases e
      split
      · rename_i e
        subst e
        rw [List.reverse_cons, List.foldl_append]
        exact (back_fold hB hc (fold_P hP _ x hr hx)).symm
      · rw [List.reverse_cons, List.foldl_append]
        rfl
    · rename_i e
      cases e
theorem fold_red (hP : ∀ x c, L4 c → P x → P (act x c)) (hB : ∀ x a, L4 a → P x → act (act x a) (backM a) = x) : ∀ (w T : List Nat) (x : α), L4s w → L4s T → P x → (redR T w).reverse.foldl act x = w.foldl act (T.reverse.foldl act x)
  | [], _, _, _, _, _ => rfl
  | c :: w, T, x, hw, hT, hx => by
    have hc := hw c List.mem_cons_self
    show (redR (push T c) w).reverse.foldl act x = _
    rw [fold_red hP hB w (push T c) x (fun d hd => hw d (List.mem_cons_of_mem _ hd)) (push_L4 hT hc) hx, fold_push hP hB hT hc hx]
    rfl
theorem fold_redM (hP : ∀ x c, L4 c → P x → P (act x c)) (hB : ∀ x a, L4 a → P x → act (act x a) (backM a) = x) {w : List Nat} {x : α} (hw : L4s w) (hx : P x) : (redM w).foldl act x = w.foldl act x :=
  fold_red hP hB w [] x hw (fun _ h => nomatch h) hx
theorem fold_inv (hP : ∀ x c, L4 c → P x → P (act x c)) (hB : ∀ x a, L4 a → P x → act (act x a) (backM a) = x) : ∀ (w : List Nat) (x : α), L4s w → P x → (w ++ invM w).foldl act x = x
  | [], _, _, _ => rfl
  | a :: w, x, hw, hx => by
    have ha := hw a List.mem_cons_self
    rw [inv_cons, List.cons_append, ← List.append_assoc]
    show (w ++ invM w ++ [backM a]).foldl act (act x a) = x
    rw [List.foldl_append, fold_inv hP hB w (act x a) (fun d hd => hw d (List.mem_cons_of_mem _ hd)) (hP x a ha hx)]
    exact hB x a ha hx
end
/-! ### corners -/
theorem go_back {p : Int × Int} {a : Nat} (ha : L4 a) : go1 (go1 p a) (backM a) = p := by
  obtain ⟨x, y⟩ := p
  rcases ha with rfl | rfl | rfl | rfl <;> simp [go1, mv, backM] <;> omega
theorem end_red {w : List Nat} {p : Int × Int} (hw : L4s w) : endM p (redM w) = endM p w :=
  fold_redM (act := go1) (P := fun _ => True) (fun _ _ _ _ => trivial) (fun _ _ ha _ => go_back ha) hw trivial
theorem path_app : ∀ (v w : List Nat) (p : Int × Int), pathM p (v ++ w) = pathM p v ++ pathM (endM p v) w
  | [], _, _ => rfl
  | c :: v, w, p => by
    show go1 p c :: pathM (go1 p c) (v ++ w) = go1 p c :: (pathM (go1 p c) v ++ _)
    rw [path_app v w]
    rfl
theorem end_app (v w : List Nat) (p : Int × Int) : endM p (v ++ w) = endM (endM p v) w := List.foldl_append ..
theorem path_back : ∀ {w : List Nat} {p : Int × Int}, L4s w → endM p w :: pathM (endM p w) (invM w) = (p :: pathM p w).reverse
  | [], _, _ => rfl
  | a :: w, p, hw => by
    have ih := path_back (w := w) (p := go1 p a) fun d hd => hw d (List.mem_cons_of_mem _ hd)
    have e1 : endM p (a :: w) = endM (go1 p a) w := rfl
    have e2 : endM (endM (go1 p a) w) (invM w) = go1 p a := by
      rw [← end_app]
      exact fold_inv (act := go1) (P := fun _ => True) (fun _ _ _ _ => trivial) (fun _ _ ha _ => go_back ha) w _ (fun d hd => hw d (List.mem_cons_of_mem _ hd)) trivial
    rw [inv_cons, path_app, e1, ← List.cons_append, ih, e2]
    show _ ++ [go1 (go1 p a) (backM a)] = (p :: go1 p a :: pathM (go1 p a) w).reverse
    rw [go_back (hw a List.mem_cons_self)]
    simp
/-! ### stacks without a step back -/
def Red : List Nat → Prop
  | t :: u :: r => u ≠ backM t ∧ Red (u :: r)
  | _ => True
theorem Red.tail {t : Nat} {r : List Nat} (h : Red (t :: r)) : Red r := by
  cases r with
  | nil => trivial
  | cons u r => exact h.2
theorem push_red {st : List Nat} {c : Nat} (h : Red st) : Red (push st c) := by
  unfold push
  split
  · rename_i t r
    split
    · exact h.tail
    · rename_i hne
      exact ⟨hne, h⟩
  · trivial
theorem push_back {st : List Nat} {a : Nat} (h : Red st) (ha : L4 a) : push (push st a) (backM a) = st := by
  cases st with
  | nil =>
    show (if a = backM (backM a) then [] else _) = _
    rw [back_back ha, if_pos rfl]
  | cons t r =>
    by_cases e : t = backM a
    · have e1 : push (t :: r) a = r := if_pos e
      rw [e1]
      cases r with
      | nil => rw [e]; rfl
      | cons u r =>
        have hu : u ≠ backM (backM a) := by
          rw [← e]
          exact h.1
        show (if u = backM (backM a) then r else backM a :: u :: r) = _
        rw [if_neg hu, e]
    · have e1 : push (t :: r) a = a :: t :: r := if_neg e
      rw [e1]
      show (if a = backM (backM a) then t :: r else _) = _
      rw [back_back ha, if_pos rfl]
theorem redR_app (st v w : List Nat) : redR st (v ++ w) = redR (redR st v) w := List.foldl_append ..
theorem redR_red (w st : List Nat) (hw : L4s w) (h : Red st) : Red (redR st w) := fold_P (act := push) (P := Red) (fun _ _ _ h => push_red h) w st hw h
theorem redR_redM {st w : List Nat} (hw : L4s w) (h : Red st) : redR st (redM w) = redR st w :=
  fold_redM (act := push) (P := Red) (fun _ _ _ h => push_red h) (fun _ _ ha h => push_back h ha) hw h
theorem redR_inv {st w : List Nat} (hw : L4s w) (h : Red st) : redR st (w ++ invM w) = st :=
  fold_inv (act := push) (P := Red) (fun _ _ _ h => push_red h) (fun _ _ ha h => push_back h ha) w st hw h
theorem redM_app1 {v w : List Nat} (hv : L4s v) : redM (redM v ++ w) = redM (v ++ w) := by
  unfold redM
  rw [redR_app, redR_app]
  have := redR_redM (st := []) hv trivial
  unfold redM at this
  rw [this]
theorem redM_app2 {v w : List Nat} (hv : L4s v) (hw : L4s w) : redM (v ++ redM w) = redM (v ++ w) := by
  show (redR [] (v ++ redM w)).reverse = (redR [] (v ++ w)).reverse
  rw [redR_app, redR_app, redR_redM hw (redR_red v [] hv trivial)]
theorem redM_inv {w : List Nat} (hw : L4s w) : redM (w ++ invM w) = [] := by
  show (redR [] (w ++ invM w)).reverse = []
  rw [redR_inv (st := []) hw trivial]
  rfl
theorem red_stack : ∀ {st : List Nat}, Red st → redR [] st.reverse = st
  | [], _ => rfl
  | t :: r, h => by
    rw [List.reverse_cons, redR_app, red_stack h.tail]
    show push r t = t :: r
    cases r with
    | nil => rfl
    | cons u r => exact if_neg h.1
theorem red_snoc : ∀ {l : List Nat} {b : Nat}, Red l → (∀ a, l.getLast? = some a → b ≠ backM a) → Red (l ++ [b])
  | [], _, _, _ => trivial
  | [t], b, _, h => ⟨h t rfl, trivial⟩
  | t :: u :: r, b, h, hb => ⟨h.1, red_snoc (l := u :: r) h.2 fun a ha => hb a (by simpa using ha)⟩
theorem red_inv : ∀ {st : List Nat}, L4s st → Red st → Red (invM st)
  | [], _, _ => trivial
  | t :: r, h4, h => by
    rw [inv_cons]
    refine red_snoc (red_inv (fun d hd => h4 d (List.mem_cons_of_mem _ hd)) h.tail) fun a ha => ?_
    cases r with
    | nil => cases ha
    | cons u r =>
      rw [inv_cons, List.getLast?_append] at ha
      cases ha
      show backM t ≠ backM (backM u)
      rw [back_back (h4 u (by simp))]
      exact fun z => h.1 z.symm
theorem red_rev : ∀ {st : List Nat}, L4s st → Red st → Red st.reverse
  | [], _, _ => trivial
  | t :: r, h4, h => by
    rw [List.reverse_cons]
    refine red_snoc (red_rev (fun d hd => h4 d (List.mem_cons_of_mem _ hd)) h.tail) fun a ha => ?_
    cases r with
    | nil => cases ha
    | cons u r =>
      rw [List.reverse_cons, List.getLast?_append] at ha
      cases ha
      intro z
      have z : t = backM u := z
      refine h.1 ?_
      rw [z, back_back (h4 u (by simp))]
theorem redM_red {w : List Nat} (hw : L4s w) : Red (redM w) := red_rev (redR_L4 w [] (by simp) hw) (redR_red w [] hw trivial)
theorem Red.app : ∀ {p l : List Nat}, Red (p ++ l) → Red l
  | [], _, h => h
  | _ :: p, _, h => Red.app (p := p) (Red.tail h)
theorem redM_invM {w : List Nat} (hw : L4s w) : redM (invM w) = invM (redM w) := by
  have hT : L4s (redR [] w) := redR_L4 w [] (by simp) hw
  have hR : Red (redR [] w) := redR_red w [] hw trivial
  have hr := red_L4 hw
  have e1 : redR [] (invM w) = redR [] (invM (redM w)) := by
    have hI : L4s (invM w) := inv_L4 hw
    have hs := redR_red (invM w) [] hI trivial
    have a1 : redR (redR [] (invM w)) (redM w ++ invM (redM w)) = redR [] (invM w) := redR_inv hr hs
    rw [redR_app, redR_redM hw hs, ← redR_app [] (invM w) w] at a1
    have a2 : redR [] (invM w ++ w) = [] := by
      have := redR_inv (st := []) hI trivial
      rwa [inv_inv hw] at this
    rw [a2] at a1
    exact a1.symm
  have e2 : invM (redM w) = (invM (redR [] w)).reverse := by simp [invM, redM]
  show (redR [] (invM w)).reverse = _
  rw [e1, e2, red_stack (red_inv hT hR)]
end Cm

/-! Defs of orders (program and laws) by data, printed by my tool. -/
namespace Cm
open PySem PySem.Spec L2 Dl
abbrev N_p_check_pair : List Str := ["pair", "many", "order"]
def b_p_check_pair_1 : Sg := (gIf (eTest (eOp dNe (eB dSortedTI (aCons (eVar 2) aNil)) (eF (fLstRg (eVar 1))))) gNever gNext)
def g_p_check_pair : Sg :=
    (gSeq (gIf (eTest (eOp dNe (eB dLen (aCons (eVar 0) aNil)) (eC (.int 2)))) gNever gNext)
    (gSeq (gAsg (tgName 1) (eB dLen (aCons (eOp dIx (eVar 0) (eC (.int 0))) aNil)))
    (gSeq (gIf (eNotT (eTest (eChain dLe dLe (eC (.int 1)) (eVar 1) (eC (.int 6))))) gNever gNext)
    (gFor (iTupD (eVar 0)) (tgName 2) b_p_check_pair_1))))
def G_p_check_pair : GF := runG N_p_check_pair g_p_check_pair
abbrev N_p_way_back : List Str := ["order", "point"]
def g_p_way_back : Sg :=
    (gRet (eTupOf (eF (fLc (iR1 (aCons (eB dLen (aCons (eVar 0) aNil)) aNil)) (tgName 1) eYes (eOp dTix (eVar 0) (eVar 1)) [1]))))
def G_p_way_back : GF := runG N_p_way_back g_p_way_back
abbrev N_p_leading_orders : List Str := ["pair", "one", "other"]
def g_p_leading_orders : Sg :=
    (gSeq (gAsg (tgTup 2 (tgCons (tgName 1) (tgCons (tgName 2) tgNil))) (eVar 0))
    (gRet (eDisp [.inr "e", .inr "n", .inr "w", .inr "s"] (aCons (eVar 1) (aCons (eVar 2) (aCons (eCall G_p_way_back (["order"] : List Str).length (aCons (eVar 1) aNil)) (aCons (eCall G_p_way_back (["order"] : List Str).length (aCons (eVar 2) aNil)) aNil)))))))
def G_p_leading_orders : GF := runG N_p_leading_orders g_p_leading_orders
abbrev N_p_steps : List Str := ["word", "pair", "leading", "reached", "found", "step", "order", "point"]
def b_p_steps_1 : Sg := (gSeq (gAsg (tgName 6) (eOp dGetK (eVar 2) (eVar 5)))
    (gSeq (gAsg (tgName 3) (eTupOf (eF (fLc (iTupD (eVar 3)) (tgName 7) eYes (eOp dIx (eVar 6) (eVar 7)) [7]))))
    (gAppend 4 (eVar 3))))
def g_p_steps : Sg :=
    (gSeq (gDrop (eCall G_p_check_pair (["pair"] : List Str).length (aCons (eVar 1) aNil)))
    (gSeq (gAsg (tgName 2) (eCall G_p_leading_orders (["pair"] : List Str).length (aCons (eVar 1) aNil)))
    (gSeq (gAsg (tgName 3) (eTupRg (eB dLen (aCons (eOp dIx (eVar 1) (eC (.int 0))) aNil))))
    (gSeq (gOwn 4 (fLst (aCons (eVar 3) aNil)))
    (gSeq (gFor (iStrD (eVar 0)) (tgName 5) b_p_steps_1)
    (gRetOwn 4))))))
def G_p_steps : GF := runG N_p_steps g_p_steps
abbrev N_p_image : List Str := ["word", "pair"]
def g_p_image : Sg :=
    (gRet (eOp dIx (eCall G_p_steps (["word", "pair"] : List Str).length (aCons (eVar 0) (aCons (eVar 1) aNil))) (eUn dNeg (eC (.int 1)))))
def G_p_image : GF := runG N_p_image g_p_image
abbrev N_l_letters : List Str := ["_law_d", "_law_most", "_law_k"]
def g_l_letters : Sg :=
    (gRet (eOp dJoin (eC (.str "")) (eF (fLc (iR1 (aCons (eCall G_l_off (["_law_d", "_law_most"] : List Str).length (aCons (eVar 0) (aCons (eOp dAdd (eVar 1) (eC (.int 1))) aNil))) aNil)) (tgName 2) eYes (eOp dIx (eC (.str "enws")) (eCall G_l_off (["_law_d", "_law_most"] : List Str).length (aCons (eVar 0) (aCons (eC (.int 4)) aNil)))) [2]))))
def G_l_letters : GF := runG N_l_letters g_l_letters
abbrev N_l_order : List Str := ["_law_d", "_law_many", "_law_rest", "_law_k"]
def g_l_order : Sg :=
    (gSeq (gOwn 2 (fLstRg (eVar 1)))
    (gRetPop 2 (iR1 (aCons (eVar 1) aNil)) (tgName 3) (eCall G_l_off (["_law_d", "_law_most"] : List Str).length (aCons (eVar 0) (aCons (eB dLen (aCons (eVarB 2) aNil)) aNil))) [3]))
def G_l_order : GF := runG N_l_order g_l_order
abbrev N_l_two_orders : List Str := ["_law_d", "_law_many"]
def g_l_two_orders : Sg :=
    (gSeq (gAsg (tgName 1) (eOp dAdd (eC (.int 1)) (eCall G_l_off (["_law_d", "_law_most"] : List Str).length (aCons (eVar 0) (aCons (eC (.int 6)) aNil)))))
    (gRet (eTup (aCons (eCall G_l_order (["_law_d", "_law_many"] : List Str).length (aCons (eVar 0) (aCons (eVar 1) aNil))) (aCons (eCall G_l_order (["_law_d", "_law_many"] : List Str).length (aCons (eVar 0) (aCons (eVar 1) aNil))) aNil)))))
def G_l_two_orders : GF := runG N_l_two_orders g_l_two_orders
abbrev N_l_behind : List Str := ["_law_one", "_law_other", "_law_point"]
def g_l_behind : Sg :=
    (gRet (eTupOf (eF (fLc (iTupD (eVar 0)) (tgName 2) eYes (eOp dIx (eVar 1) (eVar 2)) [2]))))
def G_l_behind : GF := runG N_l_behind g_l_behind
end Cm

/-! Orders of points: what the defs tell of them, by data. -/
namespace Cm
open PySem PySem.Spec L2 Dl
def nD (i : Nat) : Dat := .int (i : Int)
def tD (l : List Nat) : Dat := .tup (l.map nD)
def oD (l : List Nat) : Dat := .ftup (l.map nD)
def prD (a b : List Nat) : Dat := .tup [oD a, oD b]
def nP (i : Nat) : PyData := .int (i : Int)
def tP (l : List Nat) : PyData := .tuple (l.map nP)
/-! ### equality -/
theorem toPyA_n : ∀ l : List Nat, toPyA (l.map nD) = some (l.map nP)
  | [] => by simp [toPyA]
  | i :: l => by simp [toPyA, toPy, nD, nP, toPyA_n l]
theorem lay_n : ∀ l : List Nat, PyData.canLayAll0 (l.map nP) = true
  | [] => by simp [PyData.canLayAll0]
  | i :: l => by simp [PyData.canLayAll0, lay_n l, nP, PyData.canLay0]
theorem depth_n : ∀ l : List Nat, PyData.depthAll (l.map nP) = 0
  | [] => by simp [PyData.depthAll]
  | i :: l => by
    have := depth_n l
    simp only [List.map_cons, PyData.depthAll, nP, PyData.depth]
    (try simp only [nP] at this)
    omega
theorem eqv_n : ∀ l : List Nat, PyData.eqvAll (l.map nP) (l.map nP) = true
  | [] => by simp [PyData.eqvAll]
  | i :: l => by simp [PyData.eqvAll, PyData.eqv, nP, eqv_n l]
theorem toPy_t (l : List Nat) : toPy (tD l) = some (tP l) := by simp [tD, tP, toPy, toPyA_n]
theorem toPy_o (l : List Nat) : toPy (oD l) = some (tP l) := by simp [oD, tP, toPy, toPyA_n]
theorem toPy_l (l : List Nat) : toPy (.lst (l.map nD)) = some (.list (l.map nP)) := by simp [toPy, toPyA_n]
theorem toPyA_t : ∀ ls : List (List Nat), toPyA (ls.map tD) = some (ls.map tP)
  | [] => by simp [toPyA]
  | l :: ls => by simp [toPyA, toPy_t, toPyA_t ls]
theorem toPy_ls (ls : List (List Nat)) : toPy (.lst (ls.map tD)) = some (.list (ls.map tP)) := by simp [toPy, toPyA_t]
theorem sh_t (l : List Nat) : SeqAt.shaped (tP l) = true := by
  unfold SeqAt.shaped tP
  rw [Bool.and_eq_true]
  refine ⟨by simp only [PyData.canLay0]; exact lay_n l, decide_eq_true ?_⟩
  have := depth_n l
  simp only [PyData.depth]
  omega
theorem sh_l (l : List Nat) : SeqAt.shaped (.list (l.map nP)) = true := by
  unfold SeqAt.shaped
  rw [Bool.and_eq_true]
  refine ⟨by simp only [PyData.canLay0]; exact lay_n l, decide_eq_true ?_⟩
  have := depth_n l
  simp only [PyData.depth]
  omega
theorem lay_t : ∀ ls : List (List Nat), PyData.canLayAll0 (ls.map tP) = true
  | [] => by simp [PyData.canLayAll0]
  | l :: ls => by
    simp only [List.map_cons, PyData.canLayAll0, lay_t ls, tP, PyData.canLay0, Bool.and_true]
    exact lay_n l
theorem depth_t : ∀ ls : List (List Nat), PyData.depthAll (ls.map tP) ≤ 1
  | [] => by simp [PyData.depthAll]
  | l :: ls => by
    have := depth_t ls
    have h := depth_n l
    simp only [List.map_cons, PyData.depthAll, tP, PyData.depth]
    (try simp only [tP] at this)
    omega
theorem sh_ls (ls : List (List Nat)) : SeqAt.shaped (.list (ls.map tP)) = true := by
  unfold SeqAt.shaped
  rw [Bool.and_eq_true]
  refine ⟨by simp only [PyData.canLay0]; exact lay_t ls, decide_eq_true ?_⟩
  have := depth_t ls
  simp only [PyData.depth]
  omega
theorem eqv_t (l : List Nat) : PyData.eqv (tP l) (tP l) = true := by
  unfold tP
  simp only [PyData.eqv]
  exact eqv_n l
theorem eqv_ts : ∀ ls : List (List Nat), PyData.eqvAll (ls.map tP) (ls.map tP) = true
  | [] => by simp [PyData.eqvAll]
  | l :: ls => by simp [PyData.eqvAll, eqv_t, eqv_ts ls]
theorem eqD_same {x y : Dat} {a : PyData} (hx : toPy x = some a) (hy : toPy y = some a) (hs : SeqAt.shaped a = true) (he : PyData.eqv a a = true) : eqD x y = some true := by
  unfold eqD
  rw [hx, hy]
  simp [hs, he]
theorem ne_same {x y : Dat} (h : eqD x y = some true) : dNe x y = some (.bl false) := by
  unfold dNe
  rw [h]
  rfl
theorem eq_same {x y : Dat} (h : eqD x y = some true) : dEq x y = some (.bl true) := by
  unfold dEq
  rw [h]
  rfl
theorem eqD_tt (l : List Nat) : eqD (tD l) (tD l) = some true := eqD_same (toPy_t l) (toPy_t l) (sh_t l) (eqv_t l)
theorem eqD_to (l : List Nat) : eqD (tD l) (oD l) = some true := eqD_same (toPy_t l) (toPy_o l) (sh_t l) (eqv_t l)
theorem eqD_ll (l : List Nat) : eqD (.lst (l.map nD)) (.lst (l.map nD)) = some true := eqD_same (toPy_l l) (toPy_l l) (sh_l l) (by simp only [PyData.eqv]; exact eqv_n l)
theorem eqD_ls (ls : List (List Nat)) : eqD (.lst (ls.map tD)) (.lst (ls.map tD)) = some true := eqD_same (toPy_ls ls) (toPy_ls ls) (sh_ls ls) (by simp only [PyData.eqv]; exact eqv_ts ls)
/-! ### a drawn order -/
theorem range_n (m : Nat) : rangeD 0 (m : Int) = (List.range m).map nD := by
  unfold rangeD
  rw [Int.sub_zero, Int.toNat_natCast]
  refine List.map_congr_left fun i _ => ?_
  unfold nD
  rw [Int.zero_add]
theorem small_n {m : Nat} (h : m ≤ 1000) : smallN (m : Int) = true := by
  unfold smallN
  simp only [Bool.and_eq_true, decide_eq_true_eq]
  omega
theorem erase_map {α β : Type} (f : α → β) : ∀ (l : List α) (n : Nat), (l.map f).eraseIdx n = (l.eraseIdx n).map f
  | [], _ => rfl
  | _ :: _, 0 => rfl
  | a :: l, n + 1 => by simp [erase_map f l n]
theorem erase_perm {α : Type} : ∀ (l : List α) (n : Nat) (a : α), l[n]? = some a → (a :: l.eraseIdx n).Perm l
  | [], _, _, h => by simp at h
  | b :: l, 0, a, h => by
    cases h
    exact .refl _
  | b :: l, n + 1, a, h => by
    have h : l[n]? = some a := by simpa using h
    show (a :: b :: l.eraseIdx n).Perm (b :: l)
    exact (List.Perm.swap b a _).trans ((erase_perm l n a h).cons b)
theorem popD_s {i : Nat} {gd : GT} {fe : E} {vs : List Nat} {env e1 env' : Ev} {x y : Dat} {xs ys l : List Dat} {δ δ1 δ' : List Int} {z : Int} {n : Nat} (h0 : noOwn env vs = true) (h1 : gd x (wipeE env vs) = some e1) (h2 : fe e1 δ = some (.int z, δ1))
    (h3 : env[i]? = some (.own (.lst, l))) (hb1 : -(2 ^ 63) ≤ z) (hb2 : z < 2 ^ 63) (h4 : ixN l.length z = some n) (h5 : l[n]? = some y) (h6 : popD i gd fe vs (env.set i (.own (.lst, l.eraseIdx n))) xs δ1 = some (ys, env', δ')) :
    popD i gd fe vs env (x :: xs) δ = some (y :: ys, env', δ') := by
  unfold popD
  rw [h0, h1]
  simp [h2, h3, h4, h5, h6]
  exact ⟨hb1, hb2⟩
abbrev eRest : E := eCall G_l_off (["_law_d", "_law_most"] : List Str).length (aCons (eVar 0) (aCons (eB dLen (aCons (eVarB 2) aNil)) aNil))
theorem pop_eq (a1 : Dl.Slot) : ∀ (k j : Nat) (ρ : List Nat) (δ : List Int), ρ.length = k → k ≤ 1000 → 2 ≤ δ.length →
    ∃ (l : List Nat) (δ' : List Int), popD 2 (tgName 3) eRest [3] [.val .dice, a1, .own (.lst, ρ.map nD), .un] ((List.range' j k).map nD) δ = some (l.map nD, [.val .dice, a1, .own (.lst, []), .un], δ') ∧ l.Perm ρ ∧ 2 ≤ δ'.length
  | 0, j, ρ, δ, hl, _, hd => by
    have : ρ = [] := List.length_eq_zero_iff.mp hl
    subst this
    exact ⟨[], δ, rfl, .refl _, hd⟩
  | k + 1, j, ρ, δ, hl, hk, hd => by
    have hm : (0 : Int) < (ρ.length : Int) := by omega
    have hb := off_nn (m := (ρ.length : Int)) (δ := δ) hm
    have hn : (offM (ρ.length : Int) δ).1.toNat < ρ.length := by omega
    obtain ⟨y, hy⟩ : ∃ y, ρ[(offM (ρ.length : Int) δ).1.toNat]? = some y := ⟨_, List.getElem?_eq_getElem hn⟩
    have hp := erase_perm ρ _ y hy
    obtain ⟨l, δ', e, hl2, hd2⟩ := pop_eq a1 k (j + 1) (ρ.eraseIdx (offM (ρ.length : Int) δ).1.toNat) (offM (ρ.length : Int) δ).2 (by
      have := hp.length_eq
      simp at this
      omega) (by omega) (off_len hd)
    refine ⟨y :: l, δ', ?_, (hl2.cons y).trans hp, hd2⟩
    have e1 : eRest [.val .dice, a1, .own (.lst, ρ.map nD), .val (nD j)] δ = some (.int (offM (ρ.length : Int) δ).1, (offM (ρ.length : Int) δ).2) := by
      have h1 : (eB dLen (aCons (eVarB 2) aNil)) [.val .dice, a1, .own (.lst, ρ.map nD), .val (nD j)] δ = some (.int (ρ.length : Int), δ) := by
        apply eB_s
        · exact aCons_s (eVarB_o rfl) aNil_s
        · show some (Dat.int ((ρ.map nD).length : Int)) = _
          rw [List.length_map]
      exact call_off rfl h1 hm (by omega) hd
    rw [List.range'_succ, List.map_cons]
    refine popD_s (e1 := [.val .dice, a1, .own (.lst, ρ.map nD), .val (nD j)]) rfl rfl e1 rfl (by omega) (by omega) ?_ ?_ (ys := l.map nD) (n := (offM (ρ.length : Int) δ).1.toNat) ?_
    · rw [List.length_map]
      exact ixN_lt (by omega) hn
    · rw [List.getElem?_map, hy]
      rfl
    · rw [erase_map]
      exact e
theorem order_eq {m : Nat} {δ : List Int} (hm : m ≤ 1000) (hd : 2 ≤ δ.length) : ∃ l δ', G_l_order [.dice, nD m] δ = some (oD l, δ') ∧ l.Perm (List.range m) ∧ 2 ≤ δ'.length := by
  obtain ⟨l, δ', e, hp, hd2⟩ := pop_eq (.val (nD m)) m 0 (List.range m) δ (by simp) hm hd
  refine ⟨l, δ', ?_, hp, hd2⟩
  refine runG_r ?_
  show g_l_order [.val .dice, .val (nD m), .un, .un] δ = _
  unfold g_l_order
  have e0 : fLstRg (eVar 1) [.val .dice, .val (nD m), .un, .un] δ = some ((List.range m).map nD, δ) := by
    show (if smallN (m : Int) = true then some (rangeD 0 (m : Int), δ) else none) = _
    rw [if_pos (small_n hm), range_n]
  apply gSeq_n
  · exact gOwn_s e0
  · show gRetPop 2 (iR1 (aCons (eVar 1) aNil)) (tgName 3) eRest [3] [.val .dice, .val (nD m), .own (.lst, (List.range m).map nD), .un] δ = _
    have e1 : iR1 (aCons (eVar 1) aNil) [.val .dice, .val (nD m), .own (.lst, (List.range m).map nD), .un] δ = some ((List.range m).map nD, δ) := by
      rw [← range_n]
      exact iR1_s (aCons_s (eVar_s rfl) aNil_s) (bnd_nat (by omega))
    rw [List.range_eq_range'] at e e1
    unfold gRetPop
    rw [List.range_eq_range']
    rw [e1]
    simp only [Option.bind_some]
    rw [if_pos (by simp; omega), e]
    rfl
theorem two_eq {δ : List Int} (hd : 2 ≤ δ.length) : ∃ a b m δ', G_l_two_orders [.dice] δ = some (prD a b, δ') ∧ a.Perm (List.range m) ∧ b.Perm (List.range m) ∧ 1 ≤ m ∧ m ≤ 6 ∧ 2 ≤ δ'.length := by
  have hb := off_nn (m := 6) (δ := δ) (by decide)
  obtain ⟨m, hm⟩ : ∃ m : Nat, (1 + (offM 6 δ).1) = (m : Int) := ⟨(1 + (offM 6 δ).1).toNat, by omega⟩
  obtain ⟨a, δ1, e1, p1, d1⟩ := order_eq (m := m) (by omega) (off_len (m := 6) hd)
  obtain ⟨b, δ2, e2, p2, d2⟩ := order_eq (m := m) (by omega) d1
  refine ⟨a, b, m, δ2, ?_, p1, p2, by omega, by omega, d2⟩
  refine runG_r ?_
  show g_l_two_orders [.val .dice, .un] δ = _
  unfold g_l_two_orders
  apply gSeq_n
  · apply gAsg_s
    · exact eOp_s eC_s (call_off rfl eC_s (by decide) (by decide) hd) dAdd_i
    · exact rfl
  · rw [hm]
    apply gRet_s
    apply eTup_s
    · apply aCons_s
      · exact eCall_s (aCons_s (eVar_s rfl) (aCons_s (eVar_s rfl) aNil_s)) rfl e1
      · apply aCons_s
        · exact eCall_s (aCons_s (eVar_s rfl) (aCons_s (eVar_s rfl) aNil_s)) rfl e2
        · exact aNil_s
    · simp
/-! ### check_pair -/
theorem toI_n : ∀ l : List Nat, toI (l.map nD) = some (l.map fun i : Nat => (i : Int))
  | [] => rfl
  | i :: l => by
    show (toI (l.map nD)).map (fun ks => (i : Int) :: ks) = _
    rw [toI_n l]
    rfl
theorem sort_perm {l : List Nat} {m : Nat} (h : l.Perm (List.range m)) : sortI (l.map fun i : Nat => (i : Int)) = (List.range m).map fun i : Nat => (i : Int) := by
  refine (sortI_uniq (h.map _).symm ?_).symm
  rw [List.pairwise_map]
  exact List.pairwise_lt_range.imp fun h => by omega
theorem check_one {l : List Nat} {m : Nat} {x y : Dl.Slot} {δ : List Int} (h : l.Perm (List.range m)) (hm : m ≤ 6) :
    b_p_check_pair_1 [x, .val (nD m), .val (oD l)] δ = some (.nx [x, .val (nD m), .val (oD l)] δ) := by
  unfold b_p_check_pair_1
  apply gIf_f
  · apply eTest_s
    apply eOp_s
    · apply eB_s
      · exact aCons_s (eVar_s rfl) aNil_s
      · show (toI (l.map nD)).map (fun ns => Dat.lst ((sortI ns).map .int)) = some (.lst ((List.range m).map nD))
        rw [toI_n]
        show some (Dat.lst ((sortI (l.map fun i : Nat => (i : Int))).map .int)) = _
        rw [sort_perm h, List.map_map]
        rfl
    · apply eF_s (xs := (List.range m).map nD)
      show (if smallN (m : Int) = true then some (rangeD 0 (m : Int), δ) else none) = _
      rw [if_pos (small_n (by omega)), range_n]
    · exact ne_same (eqD_ll _)
  · exact gNext_s
theorem check_eq {a b : List Nat} {m : Nat} {δ : List Int} (ha : a.Perm (List.range m)) (hb : b.Perm (List.range m)) (h1 : 1 ≤ m) (h6 : m ≤ 6) : G_p_check_pair [prD a b] δ = some (.non, δ) := by
  have la : a.length = m := by rw [ha.length_eq, List.length_range]
  refine runG_n (e1 := [.val (prD a b), .val (nD m), .val (oD b)]) ?_
  show g_p_check_pair [.val (prD a b), .un, .un] δ = _
  unfold g_p_check_pair
  apply gSeq_n
  · apply gIf_f
    · apply eTest_s
      apply eOp_s
      · exact eB_s (aCons_s (eVar_s rfl) aNil_s) rfl
      · exact eC_s
      · rw [show ((([oD a, oD b] : List Dat).length : Nat) : Int) = 2 by rfl, dNe_i]
        rfl
    · exact gNext_s
  · apply gSeq_n
    · apply gAsg_s
      · apply eB_s
        · exact aCons_s (eOp_s (eVar_s rfl) eC_s (atI_nat' (j := 0) rfl rfl)) aNil_s
        · show some (Dat.int ((a.map nD).length : Int)) = some (nD m)
          rw [List.length_map, la]
          rfl
      · exact rfl
    · apply gSeq_n
      · apply gIf_f
        · apply eNotT_s (k := true)
          apply eTest_s
          apply eChain_t
          · exact eC_s
          · exact eVar_s rfl
          · show some (Dat.bl (decide ((1 : Int) ≤ (m : Int)))) = _
            rw [decide_eq_true (by omega)]
          · exact eC_s
          · show some (Dat.bl (decide ((m : Int) ≤ 6))) = _
            rw [decide_eq_true (by omega)]
        · exact gNext_s
      · apply gFor_s
        · exact iTupD_s (eVar_s rfl)
        · apply forD_n (e1 := [.val (prD a b), .val (nD m), .val (oD a)])
          · exact rfl
          · exact check_one (y := .un) ha h6
          · apply forD_n (e1 := [.val (prD a b), .val (nD m), .val (oD b)])
            · exact rfl
            · exact check_one (y := .un) hb h6
            · exact rfl
end Cm

/-! steps, image: where the points come to. -/
namespace Cm
open PySem PySem.Spec L2 Dl
section
variable {f : E} {fr : EA} {env e1 : Ev} {δ δ1 : List Int} {x y z : Dat} {xs : List Dat}
theorem eTupOf_s (h : f env δ = some (.lst xs, δ1)) : eTupOf f env δ = some (.tup xs, δ1) := by unfold eTupOf; rw [h]; rfl
theorem eTupRg_s {m : Nat} (h : f env δ = some (nD m, δ1)) (hm : m ≤ 1000) : eTupRg f env δ = some (tD (List.range m), δ1) := by
  unfold eTupRg
  rw [h]
  show (if smallN (m : Int) = true then some (Dat.tup (rangeD 0 (m : Int)), δ1) else none) = _
  rw [if_pos (small_n hm), range_n]
  rfl
theorem eDisp_s {ks : List Key} (h : fr env δ = some (xs, δ1)) : eDisp ks fr env δ = some (.dK ks xs, δ1) := by unfold eDisp; rw [h]; rfl
theorem eRevL_s (h : f env δ = some (.lst xs, δ1)) : eRevL f env δ = some (.lst xs.reverse, δ1) := by unfold eRevL; rw [h]; rfl
theorem gPar_s {i j : Nat} (h : fr env δ = some ([x, y], δ1)) : gPar i j fr env δ = some (.nx ((env.set i (.val x)).set j (.val y)) δ1) := by unfold gPar; rw [h]; rfl
theorem gPar3_s {i j l : Nat} (h : fr env δ = some ([x, y, z], δ1)) : gPar3 i j l fr env δ = some (.nx (((env.set i (.val x)).set j (.val y)).set l (.val z)) δ1) := by unfold gPar3; rw [h]; rfl
theorem gDrop_s' (h : f env δ = some (x, δ1)) : gDrop f env δ = some (.nx env δ1) := by unfold gDrop; rw [h]; rfl
end
/-! ### the way back -/
theorem ixI_n {p : Nat} : ∀ {a : List Nat}, p ∈ a → ixI (p : Int) (a.map fun i : Nat => (i : Int)) = some (a.idxOf p)
  | [], h => by cases h
  | b :: r, h => by
    show (if (b : Int) = (p : Int) then some 0 else (ixI (p : Int) (r.map fun i : Nat => (i : Int))).map (· + 1)) = _
    rw [List.idxOf_cons]
    by_cases e : b = p
    · subst e
      simp
    · have hr : p ∈ r := by
        rcases List.mem_cons.mp h with z | z
        · exact absurd z.symm e
        · exact z
      have eb : (b == p) = false := beq_false_of_ne e
      rw [if_neg (by omega), ixI_n hr, eb]
      rfl
def invO (a : List Nat) : List Nat := (List.range a.length).map fun p => a.idxOf p
theorem back_ok {a : List Nat} {m : Nat} {δ : List Int} (ha : a.Perm (List.range m)) (hm : m ≤ 6) : G_p_way_back [oD a] δ = some (tD (invO a), δ) := by
  have la : a.length = m := by rw [ha.length_eq, List.length_range]
  refine runG_r ?_
  show g_p_way_back [.val (oD a), .un] δ = _
  unfold g_p_way_back
  apply gRet_s
  apply eTupOf_s
  apply eF_s
  apply fLc_s (xs := (List.range a.length).map nD)
  · rw [← range_n]
    apply iR1_s
    · apply aCons_s
      · apply eB_s
        · exact aCons_s (eVar_s rfl) aNil_s
        · show some (Dat.int ((a.map nD).length : Int)) = some (.int (a.length : Int))
          rw [List.length_map]
      · exact aNil_s
    · exact bnd_nat (by omega)
  · rw [List.length_map, List.length_range]
    omega
  · rfl
  · have := lc_map (gd := tgName 1) (ft := eYes) (fe := eOp dTix (eVar 0) (eVar 1)) (env := [.val (oD a), .un]) (δ := δ) (φ := fun x => match x with
        | .int i => nD (a.idxOf i.toNat)
        | _ => x) (xs := (List.range a.length).map nD) (fun x hx => by
      obtain ⟨p, hp, rfl⟩ := List.mem_map.mp hx
      refine ⟨[.val (oD a), .val (nD p)], rfl, rfl, ?_⟩
      apply eOp_s
      · exact eVar_s rfl
      · exact eVar_s rfl
      · show ((toI (a.map nD)).bind fun ns => (ixI (p : Int) ns).map fun k => Dat.int (k : Nat)) = _
        rw [toI_n]
        simp only [Option.bind_some]
        rw [ixI_n (ha.mem_iff.mpr (by rw [← la]; exact hp))]
        rfl)
    refine this.trans ?_
    rw [List.map_map]
    unfold invO
    rw [List.map_map]
    rfl
abbrev lkeys : List Key := [.inr "e", .inr "n", .inr "w", .inr "s"]
def leadD (a b : List Nat) : Dat := .dK lkeys [oD a, oD b, tD (invO a), tD (invO b)]
theorem lead_ok {a b : List Nat} {m : Nat} {δ : List Int} (ha : a.Perm (List.range m)) (hb : b.Perm (List.range m)) (hm : m ≤ 6) : G_p_leading_orders [prD a b] δ = some (leadD a b, δ) := by
  refine runG_r ?_
  show g_p_leading_orders [.val (prD a b), .un, .un] δ = _
  unfold g_p_leading_orders
  apply gSeq_n
  · exact gAsg_s (eVar_s rfl) rfl
  · apply gRet_s
    apply eDisp_s
    apply aCons_s
    · exact eVar_s rfl
    · apply aCons_s
      · exact eVar_s rfl
      · apply aCons_s
        · exact eCall_s (aCons_s (eVar_s rfl) aNil_s) rfl (back_ok ha hm)
        · apply aCons_s
          · exact eCall_s (aCons_s (eVar_s rfl) aNil_s) rfl (back_ok hb hm)
          · exact aNil_s
/-! ### where a step leads -/
def ordO (a b : List Nat) (c : Nat) : List Nat := if c = 101 then a else if c = 110 then b else if c = 119 then invO a else invO b
def ordD (a b : List Nat) (c : Nat) : Dat := if c = 101 then oD a else if c = 110 then oD b else if c = 119 then tD (invO a) else tD (invO b)
theorem get_lead {a b : List Nat} {c : Nat} (h : L4 c) : dGetK (leadD a b) (.str (S [c])) = some (ordD a b c) := by
  show getK lkeys [oD a, oD b, tD (invO a), tD (invO b)] (.inr (S [c])) = _
  unfold lkeys
  rw [e_S, n_S, w_S, s_S]
  rcases h with rfl | rfl | rfl | rfl <;> simp [getK, S_inj, ordD]
theorem ix_ord {a b : List Nat} {c p : Nat} (h : p < (ordO a b c).length) : dIx (ordD a b c) (nD p) = some (nD ((ordO a b c).getD p 0)) := by
  have key : ∀ l : List Nat, p < l.length → L2.atI (l.map nD) (p : Int) = some (nD (l.getD p 0)) := fun l hl => by
    refine atI_nat' rfl ?_
    rw [List.getElem?_map, List.getElem?_eq_getElem hl, List.getD_eq_getElem?_getD, List.getElem?_eq_getElem hl]
    rfl
  by_cases h1 : c = 101
  · subst h1
    exact key a h
  · by_cases h2 : c = 110
    · subst h2
      exact key b h
    · by_cases h3 : c = 119
      · subst h3
        exact key _ h
      · simp only [ordO, ordD, h1, h2, h3, if_false] at h ⊢
        exact key _ h
/-- a good pair of m points -/
structure Pr (a b : List Nat) (m : Nat) : Prop where
  pa : a.Perm (List.range m)
  pb : b.Perm (List.range m)
  h1 : 1 ≤ m
  h6 : m ≤ 6
section
variable {a b : List Nat} {m : Nat}
theorem perm_len {a : List Nat} (h : a.Perm (List.range m)) : a.length = m := by rw [h.length_eq, List.length_range]
theorem inv_lenO {a : List Nat} (h : a.Perm (List.range m)) : (invO a).length = m := by
  unfold invO
  rw [List.length_map, List.length_range, perm_len h]
theorem Pr.len (k : Pr a b m) (c : Nat) : (ordO a b c).length = m := by
  unfold ordO
  split
  · exact perm_len k.pa
  · split
    · exact perm_len k.pb
    · split
      · exact inv_lenO k.pa
      · exact inv_lenO k.pb
theorem inv_lt {a : List Nat} (h : a.Perm (List.range m)) : ∀ q ∈ invO a, q < m := by
  intro q hq
  unfold invO at hq
  obtain ⟨p, hp, rfl⟩ := List.mem_map.mp hq
  rw [perm_len h] at hp
  have := List.idxOf_lt_length_of_mem (h.mem_iff.mpr hp)
  rwa [perm_len h] at this
theorem Pr.lt (k : Pr a b m) (c : Nat) : ∀ q ∈ ordO a b c, q < m := by
  unfold ordO
  split
  · exact fun q hq => List.mem_range.mp (k.pa.mem_iff.mp hq)
  · split
    · exact fun q hq => List.mem_range.mp (k.pb.mem_iff.mp hq)
    · split
      · exact inv_lt k.pa
      · exact inv_lt k.pb
/-- one step for all points -/
def act (a b : List Nat) (r : List Nat) (c : Nat) : List Nat := r.map fun p => (ordO a b c).getD p 0
theorem Pr.act (k : Pr a b m) {r : List Nat} {c : Nat} (hr : ∀ p ∈ r, p < m) : ∀ p ∈ Cm.act a b r c, p < m := by
  intro q hq
  obtain ⟨p, hp, rfl⟩ := List.mem_map.mp hq
  have hp := hr p hp
  refine k.lt c _ ?_
  rw [List.getD_eq_getElem?_getD, List.getElem?_eq_getElem (by rw [k.len]; exact hp)]
  exact List.getElem_mem _
def pathA (a b : List Nat) (r : List Nat) : List Nat → List (List Nat)
  | [] => []
  | c :: w => act a b r c :: pathA a b (act a b r c) w
theorem act_lc (k : Pr a b m) {r : List Nat} {c : Nat} {env : Ev} {δ : List Int} (hr : ∀ p ∈ r, p < m) (h6 : env[6]? = some (.val (ordD a b c))) (h8 : env.length = 8) :
    lcD (tgName 7) eYes (eOp dIx (eVar 6) (eVar 7)) env (r.map nD) δ = some ((act a b r c).map nD, δ) := by
  have := lc_map (gd := tgName 7) (ft := eYes) (fe := eOp dIx (eVar 6) (eVar 7)) (env := env) (δ := δ) (φ := fun x => match x with
      | .int i => nD ((ordO a b c).getD i.toNat 0)
      | _ => x) (xs := r.map nD) (fun x hx => by
    obtain ⟨p, hp, rfl⟩ := List.mem_map.mp hx
    refine ⟨env.set 7 (.val (nD p)), rfl, rfl, ?_⟩
    apply eOp_s
    · exact eVar_s (by rw [List.getElem?_set_ne (by decide)]; exact h6)
    · exact eVar_s (List.getElem?_set_self (by omega))
    · exact ix_ord (by rw [k.len]; exact hr p hp))
  refine this.trans ?_
  rw [List.map_map]
  unfold act
  rw [List.map_map]
  rfl
theorem act_len (r : List Nat) (c : Nat) : (act a b r c).length = r.length := by simp [act]
theorem steps_for (k : Pr a b m) (x0 x1 : Dl.Slot) : ∀ (w : List Nat) (hw : L4s w) (r : List Nat) (acc : List (List Nat)) (s5 s6 : Dl.Slot) (δ : List Int), (∀ p ∈ r, p < m) → r.length ≤ 6 → acc.length + w.length < 100000 →
    ∃ (s5' s6' : Dl.Slot), forD (tgName 5) b_p_steps_1 (w.map ltr) [x0, x1, .val (leadD a b), .val (tD r), .own (.lst, acc.map tD), s5, s6, .un] δ =
      some (.nx [x0, x1, .val (leadD a b), .val (tD (w.foldl (act a b) r)), .own (.lst, (acc ++ pathA a b r w).map tD), s5', s6', .un] δ)
  | [], _, r, acc, s5, s6, δ, _, _, _ => ⟨s5, s6, by simp [pathA, forD]⟩
  | c :: w, hw, r, acc, s5, s6, δ, hr, hl, hz => by
    have hc := hw c List.mem_cons_self
    obtain ⟨t5, t6, e⟩ := steps_for k x0 x1 w (fun d hd => hw d (List.mem_cons_of_mem _ hd)) (act a b r c) (acc ++ [act a b r c]) (.val (ltr c)) (.val (ordD a b c)) δ (k.act hr) (by rw [act_len]; exact hl) (by simp at hz ⊢; omega)
    refine ⟨t5, t6, ?_⟩
    rw [List.map_cons]
    apply forD_n
    · exact rfl
    · unfold b_p_steps_1
      apply gSeq_n
      · exact gAsg_s (eOp_s (eVar_s rfl) (eVar_s rfl) (get_lead hc)) rfl
      · apply gSeq_n
        · apply gAsg_s
          · apply eTupOf_s
            apply eF_s
            apply fLc_s
            · exact iTupD_s (eVar_s rfl)
            · rw [List.length_map]; omega
            · rfl
            · exact act_lc k hr rfl rfl
          · exact rfl
        · apply gAppend_s
          · exact eVar_s rfl
          · exact rfl
          · rw [List.length_map]; omega
    · have e1 : (acc ++ [act a b r c]).map tD = acc.map tD ++ [tD (act a b r c)] := by simp
      rw [e1] at e
      have e2 : acc ++ pathA a b r (c :: w) = acc ++ [act a b r c] ++ pathA a b (act a b r c) w := by simp [pathA]
      rw [e2]
      exact e
theorem Pr.steps (k : Pr a b m) {w : List Nat} {δ : List Int} (hw : L4s w) (hl : w.length < 10000) :
    G_p_steps [.str (S w), prD a b] δ = some (.lst ((List.range m :: pathA a b (List.range m) w).map tD), δ) := by
  refine runG_r ?_
  show g_p_steps [.val (.str (S w)), .val (prD a b), .un, .un, .un, .un, .un, .un] δ = _
  unfold g_p_steps
  have h6 := k.h6
  obtain ⟨t5, t6, e⟩ := steps_for k (.val (.str (S w))) (.val (prD a b)) w hw (List.range m) [List.range m] .un .un δ (fun p hp => List.mem_range.mp hp) (by simpa using k.h6) (by simp; omega)
  apply gSeq_n
  · exact gDrop_s' (eCall_s (aCons_s (eVar_s rfl) aNil_s) rfl (check_eq k.pa k.pb k.h1 k.h6))
  · apply gSeq_n
    · exact gAsg_s (eCall_s (aCons_s (eVar_s rfl) aNil_s) rfl (lead_ok k.pa k.pb k.h6)) rfl
    · apply gSeq_n
      · apply gAsg_s
        · apply eTupRg_s (m := m)
          · apply eB_s
            · exact aCons_s (eOp_s (eVar_s rfl) eC_s (atI_nat' (j := 0) rfl rfl)) aNil_s
            · show some (Dat.int ((a.map nD).length : Int)) = some (nD m)
              rw [List.length_map, perm_len k.pa]
              rfl
          · omega
        · exact rfl
      · apply gSeq_n
        · exact gOwn_s (fLst_s (aCons_s (eVar_s rfl) aNil_s) (by simp))
        · apply gSeq_n
          · apply gFor_s
            · exact iStrD_s (eVar_s rfl)
            · exact e
          · exact gRetOwn_s rfl
/-- the points behind the whole word -/
def imgA (a b : List Nat) (m : Nat) (w : List Nat) : List Nat := w.foldl (act a b) (List.range m)
theorem pathA_last : ∀ (w : List Nat) (r : List Nat), (r :: pathA a b r w).getLast? = some (w.foldl (act a b) r)
  | [], _ => rfl
  | c :: w, r => by
    rw [show pathA a b r (c :: w) = act a b r c :: pathA a b (act a b r c) w from rfl, List.getLast?_cons_cons]
    exact pathA_last w _
theorem Pr.image (k : Pr a b m) {w : List Nat} {δ : List Int} (hw : L4s w) (hl : w.length < 10000) : G_p_image [.str (S w), prD a b] δ = some (tD (imgA a b m w), δ) := by
  refine runG_r ?_
  show g_p_image [.val (.str (S w)), .val (prD a b)] δ = _
  unfold g_p_image
  apply gRet_s
  apply eOp_s
  · exact eCall_s (aCons_s (eVar_s rfl) (aCons_s (eVar_s rfl) aNil_s)) rfl (k.steps hw hl)
  · exact eUn_s eC_s rfl
  · exact atI_neg1 (by rw [List.getLast?_map, pathA_last]; rfl)
theorem behind_eq {r s : List Nat} {δ : List Int} (hr : ∀ p ∈ r, p < s.length) (hl : r.length < 1000) : G_l_behind [tD r, tD s] δ = some (tD (r.map fun p => s.getD p 0), δ) := by
  refine runG_r ?_
  show g_l_behind [.val (tD r), .val (tD s), .un] δ = _
  unfold g_l_behind
  apply gRet_s
  apply eTupOf_s
  apply eF_s
  apply fLc_s
  · exact iTupD_s (eVar_s rfl)
  · rw [List.length_map]; omega
  · rfl
  · have := lc_map (gd := tgName 2) (ft := eYes) (fe := eOp dIx (eVar 1) (eVar 2)) (env := [.val (tD r), .val (tD s), .un]) (δ := δ) (φ := fun x => match x with
        | .int i => nD (s.getD i.toNat 0)
        | _ => x) (xs := r.map nD) (fun x hx => by
      obtain ⟨p, hp, rfl⟩ := List.mem_map.mp hx
      refine ⟨[.val (tD r), .val (tD s), .val (nD p)], rfl, rfl, ?_⟩
      apply eOp_s
      · exact eVar_s rfl
      · exact eVar_s rfl
      · have hp := hr p hp
        refine atI_nat' rfl ?_
        rw [List.getElem?_map, List.getElem?_eq_getElem hp]
        show some (nD s[p]) = some (nD (s.getD p 0))
        rw [List.getD_eq_getElem?_getD, List.getElem?_eq_getElem hp]
        rfl)
    refine this.trans ?_
    rw [List.map_map, List.map_map]
    rfl
end
end Cm

/-! Images of words, plainly. -/
namespace Cm
open PySem PySem.Spec L2 Dl
section
variable {a b : List Nat} {m : Nat}
theorem getD_map {α : Type} (f : Nat → Nat) {l : List Nat} {p : Nat} (h : p < l.length) : (l.map f).getD p 0 = f (l.getD p 0) := by
  rw [List.getD_eq_getElem?_getD, List.getD_eq_getElem?_getD, List.getElem?_map, List.getElem?_eq_getElem h]
  rfl
theorem getD_range {p : Nat} (h : p < m) : (List.range m).getD p 0 = p := by
  rw [List.getD_eq_getElem?_getD, List.getElem?_range h]
  rfl
theorem inv_getD {a : List Nat} {q : Nat} (h : q < a.length) : (invO a).getD q 0 = a.idxOf q := by
  unfold invO
  rw [getD_map (α := Nat) _ (by rw [List.length_range]; exact h), getD_range h]
theorem nodup_of {a : List Nat} (h : a.Perm (List.range m)) : a.Nodup := h.nodup_iff.mpr List.nodup_range
theorem there {a : List Nat} {p : Nat} (h : a.Perm (List.range m)) (hp : p < m) : (invO a).getD (a.getD p 0) 0 = p := by
  have hl : p < a.length := by rw [perm_len h]; exact hp
  have e : a.getD p 0 = a[p] := by rw [List.getD_eq_getElem?_getD, List.getElem?_eq_getElem hl]; rfl
  have hm : a[p] < a.length := by
    rw [perm_len h]
    exact List.mem_range.mp (h.mem_iff.mp (List.getElem_mem hl))
  rw [e, inv_getD hm, (nodup_of h).idxOf_getElem]
theorem again {a : List Nat} {p : Nat} (h : a.Perm (List.range m)) (hp : p < m) : a.getD ((invO a).getD p 0) 0 = p := by
  have hl : p < a.length := by rw [perm_len h]; exact hp
  have hi : a.idxOf p < a.length := List.idxOf_lt_length_iff.mpr (h.mem_iff.mpr (List.mem_range.mpr hp))
  rw [inv_getD hl, List.getD_eq_getElem?_getD, List.getElem?_eq_getElem hi]
  exact List.getElem_idxOf hi
theorem Pr.ord_back (k : Pr a b m) {c p : Nat} (hc : L4 c) (hp : p < m) : (ordO a b (backM c)).getD ((ordO a b c).getD p 0) 0 = p := by
  rcases hc with rfl | rfl | rfl | rfl
  · exact there k.pa hp
  · exact there k.pb hp
  · exact again k.pa hp
  · exact again k.pb hp
abbrev Pts (m : Nat) (r : List Nat) : Prop := ∀ p ∈ r, p < m
theorem Pr.act_back (k : Pr a b m) {r : List Nat} {c : Nat} (hc : L4 c) (hr : Pts m r) : Cm.act a b (Cm.act a b r c) (backM c) = r := by
  unfold Cm.act
  rw [List.map_map]
  refine (List.map_congr_left fun p hp => ?_).trans (List.map_id r)
  exact k.ord_back hc (hr p hp)
theorem Pr.hP (k : Pr a b m) : ∀ (x : List Nat) (c : Nat), L4 c → Pts m x → Pts m (Cm.act a b x c) := fun _ _ _ h => k.act h
theorem Pr.hB (k : Pr a b m) : ∀ (x : List Nat) (c : Nat), L4 c → Pts m x → Cm.act a b (Cm.act a b x c) (backM c) = x := fun _ _ hc h => k.act_back hc h
theorem rangePts : Pts m (List.range m) := fun _ h => List.mem_range.mp h
theorem Pr.img_red (k : Pr a b m) {w : List Nat} (hw : L4s w) : imgA a b m (redM w) = imgA a b m w := fold_redM k.hP k.hB hw rangePts
theorem Pr.img_inv (k : Pr a b m) {w : List Nat} (hw : L4s w) : imgA a b m (w ++ invM w) = List.range m := fold_inv k.hP k.hB w _ hw rangePts
theorem map_range {l : List Nat} (h : l.length = m) : (List.range m).map (fun p => l.getD p 0) = l := by
  apply List.ext_getElem?
  intro i
  rw [List.getElem?_map]
  by_cases hi : i < m
  · rw [List.getElem?_range hi, List.getElem?_eq_getElem (by omega)]
    show some (l.getD i 0) = _
    rw [List.getD_eq_getElem?_getD, List.getElem?_eq_getElem (by omega)]
    rfl
  · rw [List.getElem?_eq_none (by simp; omega), List.getElem?_eq_none (by omega)]
    rfl
theorem Pr.img_e (k : Pr a b m) : imgA a b m [101] = a := map_range (perm_len k.pa)
theorem Pr.img_n (k : Pr a b m) : imgA a b m [110] = b := map_range (perm_len k.pb)
theorem fold_len : ∀ (w r : List Nat), (w.foldl (act a b) r).length = r.length
  | [], _ => rfl
  | c :: w, r => (fold_len w (act a b r c)).trans (act_len r c)
theorem img_len (w : List Nat) : (imgA a b m w).length = m := by
  unfold imgA
  rw [fold_len, List.length_range]
theorem Pr.img_pts (k : Pr a b m) {w : List Nat} (hw : L4s w) : Pts m (imgA a b m w) := fold_P k.hP w _ hw rangePts
theorem Pr.fold_map (k : Pr a b m) : ∀ (w : List Nat) (r : List Nat), L4s w → Pts m r → w.foldl (Cm.act a b) r = r.map fun p => (w.foldl (Cm.act a b) (List.range m)).getD p 0
  | [], r, _, hr => ((List.map_congr_left fun p hp => getD_range (hr p hp)).trans (List.map_id' r)).symm
  | c :: w, r, hw, hr => by
    have hw' : L4s w := fun d hd => hw d (List.mem_cons_of_mem _ hd)
    show w.foldl (Cm.act a b) (Cm.act a b r c) = r.map fun p => (w.foldl (Cm.act a b) (Cm.act a b (List.range m) c)).getD p 0
    rw [k.fold_map w (Cm.act a b r c) hw' (k.act hr), k.fold_map w (Cm.act a b (List.range m) c) hw' (k.act rangePts)]
    unfold Cm.act
    rw [List.map_map, List.map_map]
    refine List.map_congr_left fun p hp => ?_
    rw [getD_map (α := Nat) _ (by rw [List.length_range]; exact hr p hp), getD_range (hr p hp)]
theorem Pr.img_app (k : Pr a b m) {v w : List Nat} (hv : L4s v) (hw : L4s w) : (imgA a b m v).map (fun p => (imgA a b m w).getD p 0) = imgA a b m (v ++ w) := by
  show _ = (v ++ w).foldl (Cm.act a b) (List.range m)
  rw [List.foldl_append]
  exact (k.fold_map w _ hw (k.img_pts hv)).symm
theorem pathA_app : ∀ (v w r : List Nat), pathA a b r (v ++ w) = pathA a b r v ++ pathA a b (v.foldl (act a b) r) w
  | [], _, _ => rfl
  | c :: v, w, r => by
    show act a b r c :: pathA a b (act a b r c) (v ++ w) = act a b r c :: (pathA a b (act a b r c) v ++ _)
    rw [pathA_app v w]
    rfl
theorem pathA_len : ∀ (w r : List Nat), (pathA a b r w).length = w.length
  | [], _ => rfl
  | c :: w, r => congrArg (· + 1) (pathA_len w _)
theorem Pr.behind (k : Pr a b m) {v w : List Nat} {δ : List Int} (hv : L4s v) (hw : L4s w) : G_l_behind [tD (imgA a b m v), tD (imgA a b m w)] δ = some (tD (imgA a b m (v ++ w)), δ) := by
  have h6 := k.h6
  rw [← k.img_app hv hw]
  exact behind_eq (fun p hp => by rw [img_len]; exact k.img_pts hv p hp) (by rw [img_len]; omega)
end
/-! ### slices of lists -/
theorem cutD_to (l : List Dat) (k : Nat) : dSl (.lst l) none (some (k : Int)) = some (.lst (l.take k)) := by
  show some (Dat.lst (cutD l none (some (k : Int)))) = _
  unfold cutD
  rw [HT.sIx_none, HT.sIx_nat]
  simp [List.take_take]
theorem cutD_from (l : List Dat) (k : Nat) : dSl (.lst l) (some (k : Int)) none = some (.lst (l.drop k)) := by
  show some (Dat.lst (cutD l (some (k : Int)) none)) = _
  unfold cutD
  rw [HT.sIx_none, HT.sIx_nat]
  by_cases h : k ≤ l.length
  · rw [Nat.min_eq_left h, List.take_of_length_le (by rw [List.length_drop]; exact Nat.le_refl _)]
  · rw [Nat.min_eq_right (show l.length ≤ k by omega), List.drop_of_length_le (show l.length ≤ k by omega), List.drop_of_length_le (Nat.le_refl _)]
    simp
end Cm

/-! A set of tuples of whole numbers, one by one: set(), t in s, s.add(t). -/
namespace Ts
open PySem PySem.Spec L2 PyProof.Rows
section
variable {P : Program} {w : World} {A : Around} {E : Value → Shared → Prop} {s : Shared} {a x : Addr} {L : List (Addr × List Int)} {es : Array (Int × Value)} {ep : Nat} {t : SetTable} {k : List Int}
/-- the c-th place at which the search looks -/
abbrev loc (t : SetTable) (g : Int) (c : Nat) : SetTable.Probe := nth t.mask (runAt t.mask (SetTable.bits g % (t.mask + 1)) (SetTable.bits g)) c
theorem loc_dummy (t : SetTable) (g : Int) (c : Nat) : (loc t g c).dummy = none := by
  have all : ∀ (n : Nat) (p : SetTable.Probe), p.dummy = none → (nth t.mask p n).dummy = none := fun n => by
    induction n with
    | zero => exact fun p h => h
    | succ n ih =>
      intro p h
      apply ih (adv t.mask p)
      unfold adv
      split <;> exact h
  exact all c _ rfl
theorem loc_add (t : SetTable) (g : Int) (c q : Nat) : nth t.mask (loc t g c) q = loc t g (c + q) := (nth_add t.mask c _ q).symm
/-- looked for, and not to be added -/
theorem seek (R : SetTR P w s.heap a L es ep t) (hx : IsT P w s.heap k x) (hu : A.units < cLine) {m : Nat} (hm1 : m < 10 * SetTable.turns t.mask) (hm2 : (loc t (thash P w k) m).j ∉ t.place.toList) (hm3 : ∀ c, c < m → (loc t (thash P w k) c).j ∈ t.place.toList)
    {Q : SetFound → Shared → Prop} (yes : ∀ i, k ∈ L.map (·.2) → Q (.there (some i)) s) (no : k ∉ L.map (·.2) → Q (.free (loc t (thash P w k) m).j false) s) :
    ∀ (n c : Nat) (st : Option SetTable.Probe), st.getD (t.probeStart (thash P w k)) = loc t (thash P w k) c → c ≤ m → m - c < n →
      (∀ (i : Nat) p, L[i]? = some p → p.2 = k → ∃ c', c ≤ c' ∧ c' < m ∧ t.place.toList[i]? = some (loc t (thash P w k) c').j) →
      wpAny (model P w) A (setSearchFrom a (.ref x) (thash P w k) false n st) Q E s := by
  intro n
  induction n with
  | zero => exact fun c st _ _ hn _ => absurd hn (Nat.not_lt_zero _)
  | succ n ih =>
    intro c st est hcm hn reach
    obtain ⟨ob, ho, hex, hdat⟩ := R.ob
    rw [setSearchFrom_succ]
    apply wpAny_bind
    refine wpAny_setState_of ho hdat R.fits ?_
    dsimp only
    refine wp_if_neg R.gw ?_
    try refine wpAny_bind (wpAny_pure ?_)
    have jj : ∀ q, (nth t.mask (loc t (thash P w k) c) q).j = (loc t (thash P w k) (c + q)).j := fun q => by rw [loc_add]
    have entry : ∀ (i : Nat) p, L[i]? = some p → (fun i => (es[i]?.map (·.1)).getD 0) i = thash P w p.2 := fun i p hp => by
      show (es[i]?.map (·.1)).getD 0 = _
      rw [R.entry hp]
      rfl
    rcases go_spec t R.tab.ris R.tab.dm (fun i => (es[i]?.map (·.1)).getD 0) (thash P w k) (10 * SetTable.turns t.mask) (m - c) _ (loc_dummy t (thash P w k) c) (by omega)
      (fun q hq => by rw [jj]; exact hm3 (c + q) (by omega)) (by rw [jj, Nat.add_sub_cancel' hcm]; exact hm2) with ⟨q, i, hq, hi, hh, hno, pr⟩ | ⟨hno, pr⟩
    · have pr' : t.probe (fun i => (es[i]?.map (·.1)).getD 0) (thash P w k) (st.getD (t.probeStart (thash P w k))) = some (.candidate (loc t (thash P w k) (c + q)).j i (loc t (thash P w k) (c + (q + 1)))) := by
        rw [est, ← jj, ← loc_add t _ c (q + 1)]
        exact pr
      rw [pr']
      dsimp only
      rw [jj] at hi
      have il : i < L.length := by
        have h1 := (List.getElem?_eq_some_iff.mp hi).1
        have h2 := R.tab.sz
        rw [List.length_map] at h2
        rw [Array.length_toList] at h1
        omega
      obtain ⟨p, hp⟩ : ∃ p, L[i]? = some p := ⟨_, List.getElem?_eq_getElem il⟩
      have pm : p ∈ L := List.mem_of_getElem? hp
      have live : t.slot (loc t (thash P w k) (c + q)).j = .live i := slot_live R.tab.ris hi
      have main : wpAny (model P w) A (searchRest a (.ref x) (thash P w k) false n es t (loc t (thash P w k) (c + q)).j i (loc t (thash P w k) (c + (q + 1)))) Q E s := by
        unfold searchRest
        rw [R.entry hp]
        dsimp only
        apply wpAny_bind
        apply wpAny_holding
        refine wpAny_eqBool_tuple hu (R.tup p pm) hx ?_
        apply wpAny_bind
        refine wpAny_setState_of ho hdat R.fits ?_
        dsimp only
        refine wp_if_neg (by simp) ?_
        try refine wpAny_bind (wpAny_pure ?_)
        rw [sameMem]
        dsimp only
        simp only [if_true, live, R.entry hp]
        apply wpAny_bind
        apply wpAny_isSame_ref_self
        apply wpAny_bind
        apply wpAny_pure
        simp only [if_true]
        by_cases hk : p.2 = k
        · refine wp_if_pos (by simp [hk]) ?_
          apply wpAny_pure
          exact yes i (List.mem_map.mpr ⟨p, pm, hk⟩)
        · refine wp_if_neg (by simp [hk]) ?_
          refine ih (c + (q + 1)) _ rfl (by omega) (by omega) fun i0 p0 h0 hk0 => ?_
          obtain ⟨c', l1, l2, l3⟩ := reach i0 p0 h0 hk0
          refine ⟨c', ?_, l2, l3⟩
          rcases Nat.lt_trichotomy c' (c + q) with z | z | z
          · exact absurd ((entry i0 p0 h0).trans (congrArg (thash P w) hk0)) (hno (c' - c) i0 (by omega) (by rw [jj, Nat.add_sub_cancel' l1]; exact l3))
          · rw [z] at l3
            have e0 := slot_live R.tab.ris l3
            rw [live] at e0
            injection e0 with e0
            rw [← e0, hp] at h0
            cases h0
            exact absurd hk0 hk
          · omega
      by_cases led : t.led = true
      · refine wp_if_neg (by simp [led]) ?_
        try refine wpAny_bind (wpAny_pure ?_)
        exact main
      · refine wp_if_pos (by simp [led]) ?_
        apply wpAny_bind
        refine seen_tup hx (fun y hy => ?_) ?_
        · obtain ⟨u, hu', eu⟩ := List.mem_map.mp hy
          have um : u ∈ es.toList := by
            have : u ∈ es ∧ u.1 = thash P w k := by simpa using hu'
            simpa using this.1
          rw [R.rows] at um
          obtain ⟨p2, hp2, e2⟩ := List.mem_map.mp um
          exact ⟨p2.2, p2.1, by rw [← eu, ← e2], R.tup p2 hp2⟩
        · refine wp_if_neg (by decide) ?_
          try refine wpAny_bind (wpAny_pure ?_)
          exact main
    · have pr' : t.probe (fun i => (es[i]?.map (·.1)).getD 0) (thash P w k) (st.getD (t.probeStart (thash P w k))) = some (.empty (loc t (thash P w k) m).j none) := by
        have e2 : (loc t (thash P w k) m).j = (nth t.mask (loc t (thash P w k) c) (m - c)).j := by rw [jj, Nat.add_sub_cancel' hcm]
        rw [est, e2]
        exact pr
      rw [pr']
      dsimp only
      apply wpAny_pure
      refine no fun hin => ?_
      obtain ⟨p0, h0, hk0⟩ := List.mem_map.mp hin
      obtain ⟨i0, hi0, e0⟩ := List.getElem_of_mem h0
      have h00 : L[i0]? = some p0 := by rw [List.getElem?_eq_getElem hi0, e0]
      obtain ⟨c', l1, l2, l3⟩ := reach i0 p0 h00 hk0
      exact hno (c' - c) i0 (by omega) (by rw [jj, Nat.add_sub_cancel' l1]; exact l3) ((entry i0 p0 h00).trans (congrArg (thash P w) hk0))
theorem find_t (R : SetTR P w s.heap a L es ep t) (hx : IsT P w s.heap k x) (hu : A.units < cLine) {Q : Option Nat → Shared → Prop} (h : ∀ r, r.isSome = decide (k ∈ L.map (·.2)) → Q r s) :
    wpAny (model P w) A (setFind a (.ref x) (thash P w k)) Q E s := by
  obtain ⟨ob, ho, hex, hdat⟩ := R.ob
  have room := R.room
  obtain ⟨m, hm1, hm2, hm3⟩ := R.tab.first (by rw [List.length_map]; omega) (thash P w k)
  have small : m < 100000 := by
    have : 10 * SetTable.turns t.mask ≤ 1420 := by
      unfold SetTable.turns
      rcases R.tab.mok with e | e | e <;> omega
    omega
  unfold setFind
  rw [show (100000 : Nat) = 99999 + 1 from rfl]
  unfold setFindIn
  apply wpAny_bind
  refine wpAny_setState_of ho hdat R.fits ?_
  dsimp only
  refine wp_if_neg (by simp [byScan, Value.scannable]) ?_
  try refine wpAny_bind (wpAny_pure ?_)
  apply wpAny_bind
  unfold setSearch
  refine seek R hx hu hm1 hm2 hm3 (fun i hin => ?_) (fun hout => ?_) 100000 0 none rfl (Nat.zero_le _) (by omega) fun i p hp hk => ?_
  · dsimp only
    apply wpAny_pure
    exact h _ (by simp [hin])
  · dsimp only
    apply wpAny_pure
    exact h _ (by simp [hout])
  · have hi : (L.map fun p => thash P w p.2)[i]? = some (thash P w k) := by
      rw [List.getElem?_map, hp, ← hk]
      rfl
    have il : i < t.place.toList.length := by
      have h1 := (List.getElem?_eq_some_iff.mp hp).1
      have h2 := R.tab.sz
      rw [List.length_map] at h2
      rw [Array.length_toList]
      omega
    have hj := List.getElem?_eq_getElem il
    obtain ⟨c, hc, e⟩ := R.tab.before hm2 hi hj
    exact ⟨c, Nat.zero_le _, hc, by rw [hj, ← e]⟩
theorem SetTR.ty (R : SetTR P w s.heap a L es ep t) : s.TypeIs (.ref a) "set" := by
  obtain ⟨ob, ho, hex, _⟩ := R.ob
  exact ⟨ob, ho, hex.1⟩
theorem in_t (R : SetTR P w s.heap a L es ep t) (hx : IsT P w s.heap k x) (hu : A.units + 64 < cLine) {Q : Value → Shared → Prop}
    (q : ∀ tk, Q (.bool (decide (k ∈ L.map (·.2)))) { s with toks := tk }) : wpAny (model P w) A (compareOp .In (.ref x) (.ref a)) Q E s := by
  have hT := SetTR.ty R
  show wpAny _ _ (do return .bool (← contains (.ref a) (.ref x))) Q E s
  apply wpAny_bind
  unfold contains
  try with_reducible refine wpAny_holding ?_
  apply wpAny_bind
  refine wpAny_specialOf hT F.slot_set_contains.lookup ?_
  show wpAny _ _ (if (some (Value.builtin "set.__contains__") == some Value.none) = true then _ else _) _ E s
  rw [if_neg (by rw [beq_builtin_none]; exact Bool.false_ne_true)]
  apply wpAny_bind
  refine wpAny_callSpecialUnlessNone?_slot (name := Str.ofString "__contains__") hT F.slot_set_contains (wpAny_call_entry F.slot_set_contains hT entry_set_contains ?_ (F.args_set_contains_2 _ _))
  unfold Builtin.«frozenset.__contains__» Builtin.Frozenset.oneOther
  simp only [List.isEmpty_nil, bind_assoc]
  unfold Builtin.Frozenset.addrOf Builtin.Frozenset.withSetAsKey setContains
  apply wpAny_bind
  apply wpAny_pure
  try dsimp only
  apply wpAny_bind
  apply wpAny_pure
  try dsimp only
  apply wpAny_bind
  apply wpAny_tryCatch
  apply wpAny_holding
  apply wpAny_bind
  refine wpAny_pyHash_tuple (by show A.units + 1 < cLine; omega) hx ?_
  apply wpAny_bind
  refine find_t (s := { s with toks := s.toks + (k.length + 1) }) R hx (by show A.units + 1 < cLine; omega) fun r hr => ?_
  apply wpAny_pure
  show wpAny _ _ (ret (Value.bool r.isSome)) _ _ _
  rw [hr]
  exact wpAny_pure ⟨_, rfl, wpAny_truthy_bool (wpAny_pure (q _))⟩
theorem add_t (R : SetTR P w s.heap a L es ep t) (hx : IsT P w s.heap k x) (hu : A.units + 64 < cLine) (few : L.length + 1 < 64) {Q : Value → Shared → Prop}
    (q : ∀ h' L' es' ep' t' tk, Heap.SameBut a s.heap h' → SetTR P w h' a L' es' ep' t' → (k ∈ L.map (·.2) → L' = L) → (k ∉ L.map (·.2) → L'.Perm ((x, k) :: L)) → s.toks ≤ tk → Q .none { s with heap := h', toks := tk }) :
    wpAny (model P w) A (call (.builtin "set.add") [.ref a, .ref x]) Q E s := by
  refine wpAny_call_entry F.slot_set_add (SetTR.ty R) F.entry_set_add ?_ (F.args_set_add_2 _ _)
  unfold Builtin.«set.add» Builtin.Frozenset.oneOther
  simp only [List.isEmpty_nil, bind_assoc]
  unfold Builtin.Frozenset.addrOf setAdd
  apply wpAny_bind
  apply wpAny_pure
  try dsimp only
  apply wpAny_bind
  apply wpAny_pure
  try dsimp only
  apply wpAny_bind
  apply wpAny_holding
  apply wpAny_bind
  refine wpAny_pyHash_tuple (by show A.units + 1 < cLine; omega) hx ?_
  refine add_at (s := { s with toks := s.toks + (k.length + 1) }) R hx (by show A.units + 1 < cLine; omega) few fun b h' L' es' ep' t' sb R' c1 c2 => ?_
  show wpAny _ _ (ret Value.none) _ _ _
  exact wpAny_pure ⟨_, rfl, q h' L' es' ep' t' _ sb R' c1 c2 (Nat.le_add_right _ _)⟩
end
end Ts

/-! The rules of a set of tuples over the hand layer. -/
namespace Ts
open PySem PySem.Spec L2 PyProof.Rows
section
variable {X : Cx}
theorem full_of {pins : List (Addr × Obj)} {σ : L2.St} {H : Hp} {s : Shared} {a : Addr} {L : List (Addr × List Int)} (I : Inv X pins σ H s) (ha : H a = some (SetTO X.prog X.w a L)) (hL : ∀ p ∈ L, SqT X.K H p.1 (p.2.map V.int)) : ∃ es ep t, SetTR X.prog X.w s.heap a L es ep t :=
  SetT0.full (I.hok a _ ha).1 fun p hp => I.isT (hL p hp)
/-- set() -/
def rNew (P : Program) (w : World) : List V → Hp → VK → Prop := fun xs H Q => xs = [] ∧ ∀ z, H z = none → Q (.ref z) (upd H z (SetTO P w z []))
theorem cr_new : CallR X (.type "set") (rNew X.prog X.w) := by
  intro pins s σ H xs us Q I r h
  obtain ⟨rfl, q⟩ := h
  cases r
  refine setR_new fun _ => ?_
  have R : SetTR X.prog X.w (s.heap.push { cls := .type "set", dict := none, data := .set #[] 0 (.fresh 0 0 (!X.w.params.followText "set-order")) }) s.heap.objs.size [] #[] 0 _ := setTR_fresh (Heap.get?_push_size _ rfl)
  have J := I.laid (a := s.heap.objs.size) (t' := s.toks) (fun b u e => Heap.get?_push_of_some _ e) (Nat.le_refl _) (setTO_new R.t0)
  exact ⟨.ref _, _, J, rfl, q _ (I.hok.fresh (Nat.le_refl _))⟩
/-- t in s -/
def rIn (K : PySem.W.Frag) (P : Program) (w : World) : R2 := fun x y H Q => ∃ (b a : Addr) (k : List Int) (L : List (Addr × List Int)), x = .ref b ∧ SqT K H b (k.map V.int) ∧ y = .ref a ∧ H a = some (SetTO P w a L) ∧ (∀ p ∈ L, SqT K H p.1 (p.2.map V.int)) ∧ Q (.bl (decide (k ∈ L.map (·.2)))) H
theorem or_in (hu : X.A.units + 64 < cLine) : OpR X (compareOp .In) (rIn X.K X.prog X.w) := by
  intro pins s σ H x y v u Q I rx ry h
  obtain ⟨b, a, k, L, rfl, hb, rfl, ha, hL, q⟩ := h
  cases rx
  cases ry
  obtain ⟨es, ep, t, R⟩ := full_of I ha hL
  exact in_t R (I.isT hb) hu fun tk => ⟨.bl _, H, I.tok _, rfl, q⟩
/-- s.add(t) -/
def rAdd (K : PySem.W.Frag) (P : Program) (w : World) : V → List V → Hp → VK → Prop := fun x xs H Q => ∃ (b a : Addr) (k : List Int) (L : List (Addr × List Int)), x = .ref a ∧ xs = [.ref b] ∧ SqT K H b (k.map V.int) ∧ H a = some (SetTO P w a L) ∧ (∀ p ∈ L, SqT K H p.1 (p.2.map V.int)) ∧
  k ∉ L.map (·.2) ∧ L.length + 1 < 64 ∧ ∀ L', L'.Perm ((b, k) :: L) → Q .non (upd H a (SetTO P w a L'))
theorem mt_add (hu : X.A.units + 64 < cLine) : MtR X "set.add" (rAdd X.K X.prog X.w) := by
  intro pins s σ H x xs v us Q I rx rxs h
  obtain ⟨b, a, k, L, rfl, rfl, hb, ha, hL, no, few, q⟩ := h
  cases rx
  have ru := rxs
  cases ru with
  | cons ry rt =>
    cases rt
    cases ry
    obtain ⟨es, ep, t, R⟩ := full_of I ha hL
    refine add_t R (I.isT hb) hu few fun h' L' es' ep' t' tk sb R' c1 c2 _ => ?_
    have he : ∃ u, h'.get? a = some u := by
      obtain ⟨ob, ho, _⟩ := R'.ob
      exact ⟨ob, ho⟩
    have J := I.write (x := a) (e := a) (t' := tk) (by rw [ha]; trivial) (.inl rfl) (fun b u hb hu => (sb.2 b hb).trans hu) he (setTO_new R'.t0)
    exact ⟨.non, _, J, rfl, q L' (c2 no)⟩
def tAdd (K : PySem.W.Frag) (P : Program) (w : World) (to te : TE) : TE := fun σ H Q => to σ H fun x H1 => (∃ a L, x = V.ref a ∧ H1 a = some (SetTO P w a L)) ∧ te σ H1 fun y H2 => rAdd K P w x [y] H2 Q
variable {o e : Expr} {to te : TE} {apos cpos : Pos}
theorem pe_add (hu : X.A.units + 64 < cLine) (ho : PE X o to) (he : PE X e te) (hbase : attributeBase o "add" X.env (eval o X.env) = eval o X.env := by rfl)
    (hfew : ((backTo cpos (starEach [e] X.env)).all (fun x => !x.1) && (backToKw cpos (keywordEach [] X.env)).all (fun x => x.1.isSome)
      && decide ([e].length + ([] : List Keyword).length + (if ([] : List Keyword).isEmpty then 0 else 1) < 30)) = true := by rfl)
    (hline : (apos.endLine == cpos.line) = true := by rfl) (hs : starEach [e] X.env = (false, eval e X.env) :: starEach [] X.env := by rfl) :
    PE X (.Call (.Attribute o "add" apos) [e] [] cpos) (tAdd X.K X.prog X.w to te) := by
  constructor
  intro pins s σ H Q I h
  refine wpAny_Call_method_late hbase hfew hline rfl (thn (ho.run pins s σ H _ I h) fun v s1 ⟨x, H1, I1, r1, ty, q1⟩ => ?_)
  obtain ⟨a, L, rfl, ha⟩ := ty
  have r1 : v = .ref a := r1
  subst r1
  obtain ⟨es, ep, t, ⟨ob, g, hex, hdat⟩, _⟩ := SetT0.ex (I1.hok a _ ha).1
  refine ⟨"set", "set.add", F.plainAttrs_set, F.slot_set_add, F.type_set_add, ⟨ob, g, hex.1⟩, fun z ez => by cases ez; exact ⟨ob, g, hex.2.1⟩, ?_⟩
  have hA := one_arg (pos := cpos) he I1 q1 (Q := fun us s' => wpAny (model X.prog X.w) X.A (call (.builtin "set.add") (.ref a :: us)) (EP X pins σ Q) X.xe s') (fun u s2 y H2 I2 r2 q => mt_add hu pins s2 σ H2 (.ref a) [y] (.ref a) [u] Q I2 rfl (.cons r2 .nil) q) hs
  rw [hs] at hA ⊢
  exact Calls.callWith_builtin rfl (Calls.evalArgs_plain hA)
end
end Ts

/-! A loop that fills a set of pairs, over my layer. -/
namespace Dl
open PySem PySem.Spec L2
section
variable {K : PySem.W.Frag} {mg : Str → Option Value} {q : Fm} {H : Hp} {σ : St} {env : Ev} {δ : List Int}
/-- fewer things are known -/
theorem Ok.less (k : Ok K mg q σ H env δ) {env' : Ev} (hl : env'.length = env.length) (h : ∀ (i : Nat) (s : Slot), env'[i]? = some s → s = .un ∨ env[i]? = some s) : Ok K mg q σ H env' δ := by
  have nn : ∀ b, NN q σ env' b → NN q σ env b ∨ H b = none := fun b z => .inl (by
    rcases z with z | z | ⟨i, l, z1, z2⟩
    · exact .inl z
    · exact .inr (.inl z)
    · rcases h i _ z1 with e | e
      · cases e
      · exact .inr (.inr ⟨i, l, e, z2⟩))
  have ow : ∀ (i : Nat) (l : Lc), env'[i]? = some (.own l) → env[i]? = some (.own l) := fun i l e => by
    rcases h i _ e with z | z
    · cases z
    · exact z
  refine ⟨k.kp, k.dc, k.dm, k.md, by rw [hl]; exact k.ln, fun l a e1 e2 e3 => k.sf l a (ow 0 l e1) e2 e3, fun i x e => ?_, fun i l e => ?_, fun i j l l' a e1 e2 e3 e4 => k.ds i j l l' a (ow i l e1) (ow j l' e2) e3 e4, RpA.keep .refl nn _ _ k.gh, fun a l e => ?_⟩
  · rcases h i _ e with z | z
    · cases z
    · obtain ⟨v, e1, r⟩ := k.vl i x z
      exact ⟨v, e1, Rp.keep .refl nn _ _ r⟩
  · obtain ⟨a, vs, e1, e2, e3, r⟩ := k.ow i l (ow i l e)
    exact ⟨a, vs, e1, e2, e3, Cn.keep .refl nn _ _ r⟩
  · obtain ⟨e1, ⟨vs, e3, r⟩, e4⟩ := k.go a l e
    exact ⟨e1, ⟨vs, e3, RpA.keep .refl nn _ _ r⟩, fun i l' e5 => e4 i l' (ow i l' e5)⟩
/-- a slot of which nothing is known takes anything -/
theorem Ok.poke (k : Ok K mg q σ H env δ) {i : Nat} (hu : env[i]? = some .un) (v : Option V) : Ok K mg q (σ.set i v) H env δ := by
  have ne : ∀ (j : Nat) (s : Slot), env[j]? = some s → s ≠ .un → (σ.set i v)[j]? = σ[j]? := fun j s e hs => by
    refine List.getElem?_set_ne fun z => ?_
    subst z
    rw [hu] at e
    cases e
    exact hs rfl
  have nn : ∀ b, NN q (σ.set i v) env b → NN q σ env b ∨ H b = none := fun b z => .inl (by
    rcases z with z | z | ⟨j, l, z1, z2⟩
    · exact .inl z
    · exact .inr (.inl z)
    · rw [ne j _ z1 (by intro z; cases z)] at z2
      exact .inr (.inr ⟨j, l, z1, z2⟩))
  refine ⟨k.kp, k.dc, k.dm, k.md, by simpa using k.ln, fun l a e1 e2 e3 => ?_, fun j x e => ?_, fun j l e => ?_, fun j1 j2 l l' a e1 e2 e3 e4 => ?_, RpA.keep .refl nn _ _ k.gh, fun a l e => ?_⟩
  · rw [ne 0 _ e1 (by intro z; cases z)] at e3
    exact k.sf l a e1 e2 e3
  · obtain ⟨w, e1, r⟩ := k.vl j x e
    exact ⟨w, by rw [ne j _ e (by intro z; cases z)]; exact e1, Rp.keep .refl nn _ _ r⟩
  · obtain ⟨a, vs, e1, e2, e3, r⟩ := k.ow j l e
    exact ⟨a, vs, by rw [ne j _ e (by intro z; cases z)]; exact e1, e2, e3, Cn.keep .refl nn _ _ r⟩
  · rw [ne j1 _ e1 (by intro z; cases z)] at e3
    rw [ne j2 _ e2 (by intro z; cases z)] at e4
    exact k.ds j1 j2 l l' a e1 e2 e3 e4
  · obtain ⟨e1, ⟨vs, e3, r⟩, e4⟩ := k.go a l e
    exact ⟨e1, ⟨vs, e3, RpA.keep .refl nn _ _ r⟩, fun j l' e5 => by rw [ne j _ e5 (by intro z; cases z)]; exact e4 j l' e5⟩
theorem heap_at (o : Obj) (hf : o.isFreed = false) : ∀ z : Nat, ∃ h : Heap, h.get? z = some o := fun z => by
  have : ∀ n : Nat, ∃ h : Heap, h.objs.size = n := fun n => by
    induction n with
    | zero => exact ⟨{ objs := #[] }, rfl⟩
    | succ n ih =>
      obtain ⟨h, e⟩ := ih
      exact ⟨h.push o, by rw [Heap.size_push, e]⟩
  obtain ⟨h, e⟩ := this z
  exact ⟨h.push o, by rw [← e]; exact Heap.get?_push_size _ hf⟩
theorem plain_set {P : Program} {w : World} {z : Addr} {L : List (Addr × List Int)} : Plain z (some (SetTO P w z L)) := fun o e => by
  cases e
  refine ⟨rfl, fun q e => ?_⟩
  obtain ⟨h, hh⟩ := heap_at { cls := .none, data := .fields #[.none, .str q 0] } rfl z
  have e : SetTO P w z L = LamX.CodeO z q := e
  unfold SetTO LamX.CodeO at e
  have f := congrFun (HO.ext.inj e) h
  have : SetT0 P w h z L := by
    rw [f]
    exact ⟨_, _, 0, hh, rfl, rfl⟩
  obtain ⟨es, ep, t, ⟨o', ho, _, hd⟩, _⟩ := this.ex
  rw [hh] at ho
  cases ho
  cases hd
/-- the guarded thing changes -/
theorem Ok.reguard {z : Addr} {o1 o2 : HO} (k : Ok K mg (q.guard z o1) σ H env δ) (hz : H z = some o1) (m1 : isMut o1 = true) (hd : q.d ≠ some z) (pl1 : Plain z (some o1)) (pl2 : Plain z (some o2)) : Ok K mg (q.guard z o2) σ (upd H z o2) env δ := by
  have inN : NN (q.guard z o1) σ env z := .inl (.inr rfl)
  have hK : Keep (NN (q.guard z o1) σ env) H (upd H z o2) := .atC hz inN m1 pl1
  have nn : ∀ b, NN (q.guard z o2) σ env b → NN (q.guard z o1) σ env b ∨ H b = none := fun b h => .inl h
  have h0 : ∀ a, (q.guard z o1).H0 a = none → a ≠ z ∧ (q.guard z o2).H0 a = none := fun a e => by
    have e : upd q.H0 z o1 a = none := e
    have c : a ≠ z := fun c => by rw [c, upd_same] at e; cases e
    refine ⟨c, ?_⟩
    show upd q.H0 z o2 a = none
    rw [upd_ne c] at e ⊢
    exact e
  refine ⟨keep_but k.kp (fun b hb => (upd_ne hb).trans (upd_ne hb).symm) (fun b hb => upd_ne hb) (.inr (by rw [upd_same]; exact upd_same)) (by show Plain z (upd q.H0 z o2 z); rw [upd_same]; exact pl2) (by rw [hz]; exact pl1), fun a e => ?_, k.dm, fun b hb => ?_, k.ln, k.sf, fun i x e => ?_, fun i l e => ?_, k.ds, RpA.keep hK nn _ _ k.gh, fun a l e => ?_⟩
  · rw [upd_ne fun c => hd (by rw [← c]; exact e)]
    exact k.dc a e
  · show upd q.H0 z o2 b ≠ none
    by_cases c : b = z
    · subst c
      rw [upd_same]
      intro w; cases w
    · have := k.md b hb
      have this : upd q.H0 z o1 b ≠ none := this
      rw [upd_ne c] at this ⊢
      exact this
  · obtain ⟨v, e1, r⟩ := k.vl i x e
    exact ⟨v, e1, Rp.keep hK nn _ _ r⟩
  · obtain ⟨a, vs, e1, e2, e3, r⟩ := k.ow i l e
    obtain ⟨c, e2'⟩ := h0 a e2
    exact ⟨a, vs, e1, e2', by rw [upd_ne c]; exact e3, Cn.keep hK nn _ _ r⟩
  · obtain ⟨e1, ⟨vs, e3, r⟩, e4⟩ := k.go a l e
    obtain ⟨c, e1'⟩ := h0 a e1
    exact ⟨e1', ⟨vs, by rw [upd_ne c]; exact e3, RpA.keep hK nn _ _ r⟩, e4⟩
/-- it is forgotten -/
theorem Ok.unguard {z : Addr} {ob : HO} (k : Ok K mg (q.guard z ob) σ H env δ) (hz : q.H0 z = none) (hm : ∀ a, q.d = some a → q.M a) (hmd : ∀ b, q.M b → q.H0 b ≠ none) (pl : Plain z (H z)) : Ok K mg q σ H env δ := by
  have nn : ∀ b, NN q σ env b → NN (q.guard z ob) σ env b ∨ H b = none := fun b h => .inl h.of_guard
  have h0 : ∀ a, (q.guard z ob).H0 a = none → q.H0 a = none := fun a e => by
    have e : upd q.H0 z ob a = none := e
    by_cases c : a = z
    · rw [c]; exact hz
    · rw [upd_ne c] at e
      exact e
  refine ⟨keep_but k.kp (fun b hb => (upd_ne hb).symm) (fun b hb => rfl) (.inl hz) (fun o e => by rw [hz] at e; cases e) pl, k.dc, hm, hmd, k.ln, k.sf, fun i x e => ?_, fun i l e => ?_, k.ds, RpA.keep .refl nn _ _ k.gh, fun a l e => ?_⟩
  · obtain ⟨v, e1, r⟩ := k.vl i x e
    exact ⟨v, e1, Rp.keep .refl nn _ _ r⟩
  · obtain ⟨a, vs, e1, e2, e3, r⟩ := k.ow i l e
    exact ⟨a, vs, e1, h0 a e2, e3, Cn.keep .refl nn _ _ r⟩
  · obtain ⟨e1, ⟨vs, e3, r⟩, e4⟩ := k.go a l e
    exact ⟨h0 a e1, ⟨vs, e3, RpA.keep .refl nn _ _ r⟩, e4⟩
end
/-! ### the loop -/
def inB (p : Int × Int) : Bool := decide (0 ≤ p.1) && decide (p.1 ≤ 11) && decide (0 ≤ p.2) && decide (p.2 ≤ 11)
def okCells (ps : List (Int × Int)) : Bool := decide (ps.length < 60) && ps.all inB && decide ps.Nodup
def gChk (i j x y : Nat) : Sg := fun env δ => match env[i]? with
  | some (.val (.lst xs)) => (toP xs).bind fun ps => if (okCells ps && decide (x < env.length) && decide (y < env.length) && decide (j < env.length)) = true then some (.nx (((env.set x .un).set y .un).set j .un) δ) else none
  | _ => none
abbrev prL (p : Int × Int) : List Int := [p.1, p.2]
theorem prL_inj {p r : Int × Int} (h : prL p = prL r) : p = r := by
  obtain ⟨a, b⟩ := p
  obtain ⟨c, d⟩ := r
  simp [prL] at h
  rw [h.1, h.2]
section
variable {X : Cx} {st1 : Stmt} {tg e : Expr} {body : List Stmt} {pos : Pos} {wi : TI} {tgd : TG} {gd : GT} {tA : TT} {fA : ET} {tT : TE} {fT : E}
theorem d_chk (i j x y : Nat) (hij : i ≠ j) (hxi : x ≠ i) (hyi : y ≠ i) (hxj : x ≠ j) (hyj : y ≠ j) (hxy : x ≠ y)
    (h1 : PS X st1 (tAsg (tCB (Ts.rNew X.prog X.w) tNil) (gName j))) (hp : PassesOwn (model X.prog X.w) X.A X.env X.xe) (hc : X.calm = true) (hi : DI X tg e wi (iLst (eVar i))) (hg : DG X tg tgd gd [x, y])
    (hb : PSs X body (tSeq (tIfS tA tNever tNext) (tSeq (tIfS (tTest (tOp (Ts.rIn X.K X.prog X.w) tT (tVar j))) tNever tNext) (tDrop (Ts.tAdd X.K X.prog X.w (tVar j) tT)))))
    (rA : RT X.K X.mg tA fA) (rT : RS X.K X.mg tT fT)
    (eg : ∀ p env, gd (pD p) env = some ((env.set x (.val (.int p.1))).set y (.val (.int p.2))))
    (eA : ∀ p env δ, env[x]? = some (.val (.int p.1)) → env[y]? = some (.val (.int p.2)) → inB p = true → fA env δ = some (false, δ))
    (eT : ∀ p env δ, env[x]? = some (.val (.int p.1)) → env[y]? = some (.val (.int p.2)) → fT env δ = some (pD p, δ))
    (hs : ∀ z, foldedSetIterable e X.env z = pure z := by intro _; rfl) :
    DSs X [st1, .For tg e body [] pos] (tSeq (tAsg (tCB (Ts.rNew X.prog X.w) tNil) (gName j)) (tFor wi tgd (tSeq (tIfS tA tNever tNext) (tSeq (tIfS (tTest (tOp (Ts.rIn X.K X.prog X.w) tT (tVar j))) tNever tNext) (tDrop (Ts.tAdd X.K X.prog X.w (tVar j) tT)))))) (gChk i j x y) := by
  refine ⟨pss_cons h1 (pss_one (ps_for hp hc hi.p hg.p hb hs)), fun q σ H env δ o D k ef ko => ?_⟩
  unfold gChk at ef
  split at ef
  rotate_left
  · cases ef
  rename_i xs hxs
  cases e1 : toP xs with
  | none => rw [e1] at ef; cases ef
  | some ps =>
    rw [e1] at ef
    simp only [Option.bind_some] at ef
    split at ef
    rotate_left
    · cases ef
    rename_i hok
    cases ef
    have exs := of_toP e1
    subst exs
    unfold okCells at hok
    simp only [Bool.and_eq_true, decide_eq_true_eq] at hok
    obtain ⟨⟨⟨⟨⟨hlen, hall⟩, hnd⟩, hxl⟩, hyl⟩, hjl⟩ := hok
    refine ⟨rfl, fun z hz => ?_⟩
    have hd : q.d ≠ some z := fun c => by
      have := k.dc z c
      rw [hz] at this
      cases this
    have z0 : q.H0 z = none := k.free0 hz
    have g1 : Ok X.K X.mg (q.guard z (SetTO X.prog X.w z [])) (σ.set j (some (.ref z))) (upd H z (SetTO X.prog X.w z [])) (env.set j .un) δ := by
      refine ((k.guard hz _ plain_set).less (by simp) fun l s e => ?_).poke (List.getElem?_set_self hjl) _
      rcases get_set_some e with ⟨_, e', _⟩ | ⟨_, e'⟩
      · exact .inl e'.symm
      · exact .inr e'
    have ei : iLst (eVar i) (env.set j .un) δ = some (ps.map pD, δ) := by
      apply iLst_s
      apply eVar_s
      rw [List.getElem?_set_ne fun c => hij c.symm]
      exact hxs
    show wi (σ.set j (some (.ref z))) (upd H z (SetTO X.prog X.w z [])) _
    refine hi.r _ _ _ _ δ (ps.map pD) δ _ g1 ei fun J H2 gv gx k2 S o2 => ?_
    refine ⟨fun n m σ' H' => m = ps.length - n ∧ n ≤ ps.length ∧ ∃ (L : List (Addr × List Int)) (en : Ev), σ'[j]? = some (some (.ref z)) ∧ H' z = some (SetTO X.prog X.w z L) ∧ (∀ p ∈ L, SqT X.K H' p.1 (p.2.map V.int)) ∧ (L.map (·.2)).Perm ((ps.take n).map prL) ∧
        Ok X.K X.mg ((q.guard z (SetTO X.prog X.w z L)).withGh gv gx) σ' H' en δ ∧ en.length = env.length ∧ ∀ l, l ≠ x → l ≠ y → en[l]? = (env.set j .un)[l]?, ⟨ps.length, by simp, Nat.zero_le _, [], _, ?_, ?_, fun p hp => (nomatch hp), by simp, o2, by simp, fun _ _ _ => rfl⟩, ?_⟩
    · rw [List.getElem?_set_self (by rw [k.ln]; exact hjl)]
    · exact k2 z _ upd_same fun c => absurd (noT c rfl) hd
    rintro n m σ' H' ⟨rfl, hn, L, en, sj, hz', hL, pm, k3, enl, ena⟩
    have gh3 := (k3.popGh S.len).2
    by_cases hlt : n < ps.length
    · have hltx : n < (ps.map pD).length := by rw [List.length_map]; exact hlt
      refine .inr ⟨S.go _ _ n gh3 hltx, fun σ2 H2 => ∃ (L : List (Addr × List Int)) (en : Ev), σ2[j]? = some (some (.ref z)) ∧ H2 z = some (SetTO X.prog X.w z L) ∧ (∀ p ∈ L, SqT X.K H2 p.1 (p.2.map V.int)) ∧ (L.map (·.2)).Perm ((ps.take (n + 1)).map prL) ∧
        Ok X.K X.mg ((q.guard z (SetTO X.prog X.w z L)).withGh gv gx) σ2 H2 en δ ∧ en.length = env.length ∧ ∀ l, l ≠ x → l ≠ y → en[l]? = (env.set j .un)[l]?, fun σ2 H2 h => ⟨ps.length - (n + 1), by omega, rfl, hlt, h⟩, fun v H3 yl => ?_⟩
      obtain ⟨s, ry⟩ := S.yld _ _ n v H3 gh3 yl
      obtain ⟨p, hp⟩ : ∃ p, ps[n]? = some p := ⟨_, List.getElem?_eq_getElem hlt⟩
      have rx := ry (pD p) (by rw [List.getElem?_map, hp]; rfl)
      have pin : inB p = true := List.all_eq_true.mp hall p (List.mem_of_getElem? hp)
      have k4 : Ok X.K X.mg ((q.guard z (SetTO X.prog X.w z L)).withGh gv gx) σ' H3 en δ := k3.grow s
      refine hg.r _ σ' H3 en δ v (pD p) _ _ k4 rx (eg p en) fun σ2 a1 a2 k5 => ?_
      have s2j : σ2[j]? = some (some (.ref z)) := by
        rw [a1.2 j (by simp; exact ⟨fun c => hxj c.symm, fun c => hyj c.symm⟩)]
        exact sj
      have ex : ((en.set x (.val (.int p.1))).set y (.val (.int p.2)))[x]? = some (.val (.int p.1)) := by
        rw [List.getElem?_set_ne fun c => hxy c.symm]
        exact List.getElem?_set_self (by rw [enl]; exact hxl)
      have ey : ((en.set x (.val (.int p.1))).set y (.val (.int p.2)))[y]? = some (.val (.int p.2)) := List.getElem?_set_self (by rw [List.length_set, enl]; exact hyl)
      have zz : ∀ {Ha Hb : Hp}, Keep (isD q.d) Ha Hb → Ha z = some (SetTO X.prog X.w z L) → Hb z = some (SetTO X.prog X.w z L) := fun kk e => kk z _ e fun c => absurd (noT c rfl) hd
      have notin : prL p ∉ L.map (·.2) := fun c => by
        obtain ⟨r, hr, er⟩ := List.mem_map.mp (pm.mem_iff.mp c)
        have er := prL_inj er
        subst er
        obtain ⟨i0, hi0, e0⟩ := List.getElem_of_mem hr
        have h1 : i0 < n := by simp at hi0; omega
        have h2 : ps[i0] = ps[n] := by
          have : (ps.take n)[i0] = ps[i0] := by simp
          rw [← this, e0]
          rw [List.getElem?_eq_getElem hlt] at hp
          exact (Option.some.inj hp).symm
        have := List.pairwise_iff_getElem.mp hnd i0 n (by omega) hlt h1
        exact this h2
      show tA σ2 H3 _
      refine rA _ σ2 H3 _ δ false δ _ k5 (eA p _ δ ex ey pin) fun H4 k6 o6 => ?_
      rw [if_neg Bool.false_ne_true]
      show tT σ2 H4 _
      refine rT _ σ2 H4 _ δ (pD p) δ _ o6 (eT p _ δ ex ey) fun v5 H5 k7 o7 r7 => ⟨.ref z, s2j, ?_⟩
      obtain ⟨b, rfl, hb⟩ := Rp.keyT (k := [.inl p.1, .inl p.2]) r7 rfl
      have hb : H5 b = some (.tup [.int p.1, .int p.2]) := hb
      have z5 : H5 z = some (SetTO X.prog X.w z L) := zz k7 (zz k6 (s z _ hz'))
      have L5 : ∀ r ∈ L, SqT X.K H5 r.1 (r.2.map V.int) := fun r hr => sqT_keep k7 (sqT_keep k6 (sqT_keep (N := isD q.d) (.of_same s) (hL r hr)))
      refine ⟨b, z, prL p, L, rfl, .of hb, rfl, z5, L5, false, by rw [decide_eq_false notin], ?_⟩
      dsimp only
      rw [if_neg Bool.false_ne_true]
      show Ts.tAdd X.K X.prog X.w (tVar j) tT σ2 H5 _
      refine ⟨.ref z, s2j, ⟨z, L, rfl, z5⟩, ?_⟩
      refine rT _ σ2 H5 _ δ (pD p) δ _ o7 (eT p _ δ ex ey) fun v6 H6 k8 o8 r8 => ?_
      obtain ⟨c, rfl, hc6⟩ := Rp.keyT (k := [.inl p.1, .inl p.2]) r8 rfl
      have hc6 : H6 c = some (.tup [.int p.1, .int p.2]) := hc6
      have z6 : H6 z = some (SetTO X.prog X.w z L) := zz k8 z5
      have L6 : ∀ r ∈ L, SqT X.K H6 r.1 (r.2.map V.int) := fun r hr => sqT_keep k8 (L5 r hr)
      have ll : L.length = n := by
        have := pm.length_eq
        rw [List.length_map, List.length_map, List.length_take] at this
        omega
      refine ⟨c, z, prL p, L, rfl, rfl, .of hc6, z6, L6, notin, by omega, fun L' pl => ?_⟩
      have hK : Keep (fun b => b = z) H6 (upd H6 z (SetTO X.prog X.w z L')) := .atC z6 rfl rfl plain_set
      refine ⟨L', _, s2j, upd_same, fun r hr => ?_, ?_, o8.reguard (q := q.withGh gv gx) z6 rfl hd plain_set plain_set, by simp [enl], fun l h1 h2 => ?_⟩
      · rcases List.mem_cons.mp (pl.mem_iff.mp hr) with rfl | hr
        · exact sqT_keep hK (.of hc6)
        · exact sqT_keep hK (L6 r hr)
      · have e2 : ps.take (n + 1) = ps.take n ++ [p] := by
          rw [List.take_add_one, hp]
          rfl
        rw [e2, List.map_append]
        exact ((pl.map _).trans (pm.cons _)).trans (List.perm_append_comm (l₁ := [prL p]))
      · rw [List.getElem?_set_ne (fun c => h2 c.symm), List.getElem?_set_ne (fun c => h1 c.symm)]
        exact ena l h1 h2
    · have en' : n = ps.length := by omega
      subst en'
      refine .inl ⟨by have := S.stop _ _ gh3; rwa [List.length_map] at this, ko σ' H' ?_⟩
      have k5 := (k3.popGh S.len).1
      refine ((k5.unguard z0 k.dm k.md (by rw [hz']; exact plain_set)).less (by simp [enl]) fun l sl e => ?_)
      rcases get_set_some e with ⟨_, e', _⟩ | ⟨n1, e⟩
      · exact .inl e'.symm
      · rcases get_set_some e with ⟨_, e', _⟩ | ⟨n2, e⟩
        · exact .inl e'.symm
        · rcases get_set_some e with ⟨_, e', _⟩ | ⟨n3, e⟩
          · exact .inl e'.symm
          · refine .inr ?_
            rw [ena l (fun c => n3 c.symm) (fun c => n2 c.symm), List.getElem?_set_ne n1]
            exact e
end
end Dl

namespace Dl
open PySem PySem.Spec L2
/-- the test that a cell stands on the board -/
theorem chk_eA {x y : Nat} (p : Int × Int) (env : Ev) (δ : List Int) (hx : env[x]? = some (.val (.int p.1))) (hy : env[y]? = some (.val (.int p.2))) (h : inB p = true) :
    eNotT (eAndT (eTest (eChain dLe dLe (eC (.int 0)) (eVar x) (eC (.int (11))))) (eTest (eChain dLe dLe (eC (.int 0)) (eVar y) (eC (.int (11)))))) env δ = some (false, δ) := by
  unfold inB at h
  simp only [Bool.and_eq_true, decide_eq_true_eq] at h
  obtain ⟨⟨⟨h1, h2⟩, h3⟩, h4⟩ := h
  refine (eNotT_s (k := true) ?_).trans rfl
  apply eAndT_t
  · apply eTest_s
    apply eChain_t
    · exact eC_s
    · exact eVar_s hx
    · exact dLe_i.trans (by rw [decide_eq_true h1])
    · exact eC_s
    · exact dLe_i.trans (by rw [decide_eq_true h2])
  · apply eTest_s
    apply eChain_t
    · exact eC_s
    · exact eVar_s hy
    · exact dLe_i.trans (by rw [decide_eq_true h3])
    · exact eC_s
    · exact dLe_i.trans (by rw [decide_eq_true h4])
theorem chk_eT {x y : Nat} (p : Int × Int) (env : Ev) (δ : List Int) (hx : env[x]? = some (.val (.int p.1))) (hy : env[y]? = some (.val (.int p.2))) : eTup (aCons (eVar x) (aCons (eVar y) aNil)) env δ = some (pD p, δ) :=
  eTup_s (aCons_s (eVar_s hx) (aCons_s (eVar_s hy) aNil_s)) (by simp)
section
variable {X : Cx} {st1 : Stmt} {tg e cA eT1 eT2 s1 s2 : Expr} {r1 r2 : List Stmt} {pos p1 p2 p3 p4 p5 p6 : Pos} {wi : TI} {tgd : TG} {gd : GT} {tA : TT} {fA : ET} {tT : TE} {fT : E}
theorem d_chk2 (i j x y : Nat) (hij : i ≠ j) (hxi : x ≠ i) (hyi : y ≠ i) (hxj : x ≠ j) (hyj : y ≠ j) (hxy : x ≠ y)
    (h1 : PS X st1 (tAsg (tCB (Ts.rNew X.prog X.w) tNil) (gName j))) (hp : PassesOwn (model X.prog X.w) X.A X.env X.xe) (hc : X.calm = true) (hi : DI X tg e wi (iLst (eVar i))) (hg : DG X tg tgd gd [x, y])
    (hA : DT X cA tA fA) (hT1 : DS X eT1 tT fT) (hin : PE X eT1 tT → PT X (.Compare eT1 [.In] [s1] p2) (tTest (tOp (Ts.rIn X.K X.prog X.w) tT (tVar j))))
    (hT2 : DS X eT2 tT fT) (hadd : PE X eT2 tT → PE X (.Call (.Attribute s2 "add" p3) [eT2] [] p4) (Ts.tAdd X.K X.prog X.w (tVar j) tT))
    (eg : ∀ p env, gd (pD p) env = some ((env.set x (.val (.int p.1))).set y (.val (.int p.2))))
    (eA : ∀ p env δ, env[x]? = some (.val (.int p.1)) → env[y]? = some (.val (.int p.2)) → inB p = true → fA env δ = some (false, δ))
    (eT : ∀ p env δ, env[x]? = some (.val (.int p.1)) → env[y]? = some (.val (.int p.2)) → fT env δ = some (pD p, δ))
    (hs : ∀ z, foldedSetIterable e X.env z = pure z := by intro _; rfl) (hsw : swapsWith (.Call (.Attribute s2 "add" p3) [eT2] [] p4) none p5.line X.env = pure false := by rfl) :
    DSs X [st1, .For tg e [.If cA r1 [] p1, .If (.Compare eT1 [.In] [s1] p2) r2 [] p6, .Expr (.Call (.Attribute s2 "add" p3) [eT2] [] p4) p5] [] pos]
      (tSeq (tAsg (tCB (Ts.rNew X.prog X.w) tNil) (gName j)) (tFor wi tgd (tSeq (tIfS tA tNever tNext) (tSeq (tIfS (tTest (tOp (Ts.rIn X.K X.prog X.w) tT (tVar j))) tNever tNext) (tDrop (Ts.tAdd X.K X.prog X.w (tVar j) tT)))))) (gChk i j x y) :=
  d_chk i j x y hij hxi hyi hxj hyj hxy h1 hp hc hi hg (pss_cons (ps_if hA.p pss_never pss_nil) (pss_cons (ps_if (hin hT1.p) pss_never pss_nil) (pss_one (ps_expr (hadd hT2.p) hsw)))) hA.r hT1.r eg eA eT hs
end
end Dl

/-! The cells looked over, a floor made, by data (printed by my tool). -/
namespace Cm
open PySem PySem.Spec L2 Dl
abbrev N_p_check_cells : List Str := ["cells", "seen", "x", "y"]
def g_p_check_cells : Sg :=
    (gSeq (gIf (eNotT (eTest (eChain dLe dLe (eC (.int 1)) (eB dLen (aCons (eVar 0) aNil)) (eC (.int 40))))) gNever gNext)
    (gChk 0 1 2 3))
def G_p_check_cells : GF := runG N_p_check_cells g_p_check_cells
abbrev N_p_Floor_init : List Str := ["self", "cells", "rising", "x", "y", "cell"]
def g_p_Floor_init : Sg :=
    (gSeq (gDrop (eCall G_p_check_cells (["cells"] : List Str).length (aCons (eVar 1) aNil)))
    (gSeq (gAsg (tgName 2) (eB dSorted (aCons (eF (fLc (iLst (eVar 1)) (tgTup 2 (tgCons (tgName 3) (tgCons (tgName 4) tgNil))) eYes (eTup (aCons (eVar 3) (aCons (eVar 4) aNil))) [3, 4])) aNil)))
    (gSeq (gFld 0 "Floor" "_cells" (eDc (iLst (eVar 2)) (tgName 5) eYes (eVar 5) (eC (.bl true)) [5]))
    (gSeq (gFld 0 "Floor" "_first" (eCall G_p_first_corner (["cells"] : List Str).length (aCons (eVar 2) aNil)))
    (gFld 0 "Floor" "_rim" (eCall G_p_rim_word (["first", "leaving"] : List Str).length (aCons (eFld "Floor" "_first" (eVarB 0)) (aCons (eCall G_p_rim_steps (["held"] : List Str).length (aCons (eFld "Floor" "_cells" (eVarB 0)) aNil)) aNil))))))))
def G_p_Floor_init : GF := runI N_p_Floor_init "Floor" g_p_Floor_init
end Cm

/-! A floor of the program, by data. -/
namespace Cm
open PySem PySem.Spec L2 Dl
def trues (ss : List P2) : List Dat := ss.map fun _ => .bl true
/-- the floor of the cells ss, rising, whose rim is w -/
def flD (ss : List P2) (w : List Nat) : Dat := .obj "Floor" ["_cells", "_first", "_rim"] [.dT (ss.map kp) (trues ss), pD (begM ss), .str (S w)]
/-- cells of a floor -/
structure Gf (cs : List P2) (w : List Nat) : Prop where
  nd : cs.Nodup
  inb : ∀ p ∈ cs, inB p = true
  ne : cs ≠ []
  le : cs.length ≤ 40
  rim : rimM cs = some w
theorem check_ok {cs : List P2} {w : List Nat} {δ : List Int} (g : Gf cs w) : G_p_check_cells [.lst (cs.map pD)] δ = some (.non, δ) := by
  have l1 : 1 ≤ cs.length := List.length_pos_iff.mpr g.ne
  have l2 := g.le
  have ok : okCells cs = true := by
    unfold okCells
    rw [Bool.and_eq_true, Bool.and_eq_true]
    exact ⟨⟨decide_eq_true (by omega), List.all_eq_true.mpr g.inb⟩, decide_eq_true g.nd⟩
  refine runG_n (e1 := [.val (.lst (cs.map pD)), .un, .un, .un]) ?_
  show g_p_check_cells [.val (.lst (cs.map pD)), .un, .un, .un] δ = _
  unfold g_p_check_cells
  apply gSeq_n
  · apply gIf_f
    · apply eNotT_s (k := true)
      apply eTest_s
      apply eChain_t
      · exact eC_s
      · exact eB_s (z := .int (cs.length : Int)) (aCons_s (eVar_s rfl) aNil_s) (by show some (Dat.int ((cs.map pD).length : Int)) = _; rw [List.length_map])
      · exact dLe_i.trans (by rw [decide_eq_true (by omega)])
      · exact eC_s
      · exact dLe_i.trans (by rw [decide_eq_true (by omega)])
    · exact gNext_s
  · unfold gChk
    show (toP (cs.map pD)).bind _ = _
    rw [toP_pD]
    show (if (okCells cs && _ && _ && _) = true then _ else _) = _
    rw [ok]
    rfl
theorem dcD_s {gd : GT} {ft : ET} {fk fv : E} {env e1 : Ev} {x y z : Dat} {xs : List Dat} {acc : List (List Key) × List Dat} {δ : List Int} {k : List Key} {r : Option ((List (List Key) × List Dat) × List Int)} (h1 : gd x env = some e1) (h2 : ft e1 δ = some (true, δ)) (h3 : fk e1 δ = some (y, δ)) (h4 : fv e1 δ = some (z, δ)) (h5 : keyD y = some k) (h6 : flatD z = true)
    (h7 : dcD gd ft fk fv env xs (putA acc.1 acc.2 k z) δ = r) : dcD gd ft fk fv env (x :: xs) acc δ = r := by
  rw [← h7]
  show ((gd x env).bind _) = _
  rw [h1]
  simp [h2, h3, h4, h5, h6]
theorem dc_loop {env : Ev} {δ : List Int} (h6 : env.length = 6) : ∀ (rest acc : List P2), (acc ++ rest).Nodup → dcD (tgName 5) eYes (eVar 5) (eC (.bl true)) env (rest.map pD) (acc.map kp, trues acc) δ = some (((acc ++ rest).map kp, trues (acc ++ rest)), δ)
  | [], acc, _ => by
    rw [List.append_nil]
    rfl
  | p :: rest, acc, nd => by
    have np : p ∉ acc := fun z => by
      have := (List.nodup_append.mp nd).2.2 p z p List.mem_cons_self
      exact this rfl
    have ih := dc_loop (δ := δ) h6 rest (acc ++ [p]) (by simpa [List.append_assoc] using nd)
    have ep : putA (acc.map kp) (trues acc) (kp p) (Dat.bl true) = ((acc ++ [p]).map kp, trues (acc ++ [p])) := by
      rw [putA_new np]
      simp [trues]
    rw [List.map_cons]
    refine dcD_s (e1 := env.set 5 (.val (pD p))) (y := pD p) (z := .bl true) (k := kp p) rfl rfl (eVar_s (List.getElem?_set_self (by omega))) rfl rfl rfl ?_
    show dcD _ _ _ _ _ _ (putA (acc.map kp) (trues acc) (kp p) (Dat.bl true)) δ = _
    rw [ep, ih]
    simp
theorem lc_pairs {env : Ev} {δ : List Int} {i j : Nat} (hi : i < env.length) (hj : j < env.length) (hij : i ≠ j) (cs : List P2) :
    lcD (tgTup 2 (tgCons (tgName i) (tgCons (tgName j) tgNil))) eYes (eTup (aCons (eVar i) (aCons (eVar j) aNil))) env (cs.map pD) δ = some (cs.map pD, δ) := by
  have := lc_map (gd := tgTup 2 (tgCons (tgName i) (tgCons (tgName j) tgNil))) (ft := eYes) (fe := eTup (aCons (eVar i) (aCons (eVar j) aNil))) (env := env) (δ := δ) (φ := fun x => x) (xs := cs.map pD) (fun x hx => by
    obtain ⟨p, _, rfl⟩ := List.mem_map.mp hx
    refine ⟨(env.set i (.val (.int p.1))).set j (.val (.int p.2)), rfl, rfl, ?_⟩
    refine eTup_s (aCons_s (eVar_s ?_) (aCons_s (eVar_s ?_) aNil_s)) (by simp)
    · rw [List.getElem?_set_ne fun z => hij z.symm]
      exact List.getElem?_set_self hi
    · exact List.getElem?_set_self (by rw [List.length_set]; exact hj))
  rw [this, List.map_id']
/-! ### the rim's corners -/
theorem walk_path : ∀ (w : List Nat) (q : P2), (q :: pathM q w).dropLast = walkM q w
  | [], _ => rfl
  | c :: w, q => by
    show (q :: go1 q c :: pathM (go1 q c) w).dropLast = q :: walkM (go1 q c) w
    rw [List.dropLast_cons₂, walk_path w (go1 q c)]
theorem walk_len : ∀ (w : List Nat) (q : P2), (walkM q w).length = w.length
  | [], _ => rfl
  | c :: w, q => congrArg (· + 1) (walk_len w (go1 q c))
structure Rm (cs : List P2) (w : List Nat) : Prop where
  l4 : L4s w
  once : (walkM (begM cs) w).Nodup
  back : endM (begM cs) w = begM cs
  len : w.length ≤ 160
  pos : w ≠ []
theorem Gf.rm {cs : List P2} {w : List Nat} (g : Gf cs w) : Rm cs w := by
  obtain ⟨sn, hsl, sn1, hp, hw, hm, h', hr, hh⟩ := rim_all g.nd g.rim
  have hm4 := manyM_le cs cs
  have hpos := many_pos g.ne
  have L := (rimR_spec hr).2.2.1 (fun c z => by cases z)
  obtain ⟨v, e1, e2, e3⟩ := rimR_walk hr
  rw [List.nil_append] at e1 e2
  subst e1
  subst e2
  have hle := g.le
  have hwp : w ≠ [] := fun z => by rw [z] at hm; simp at hm; omega
  refine ⟨L, sn1, ?_, by omega, hwp⟩
  cases w with
  | nil => exact absurd rfl hwp
  | cons c v =>
    have : some (begM cs) = some h' := hh
    rw [← e3]
    exact (Option.some.inj this).symm
/-! ### Floor(..) -/
theorem sort_len (cs : List P2) : (sortP cs).length = cs.length := (sortP_perm cs).length_eq
theorem Gf.sorted {cs : List P2} {w : List Nat} (g : Gf cs w) : Gf (sortP cs) w :=
  ⟨(sortP_perm cs).nodup_iff.mpr g.nd, fun p hp => g.inb p ((sortP_perm cs).mem_iff.mp hp), fun z => g.ne (by
    have := sort_len cs
    rw [z] at this
    exact List.length_eq_zero_iff.mp this.symm), by rw [sort_len]; exact g.le, by
    rw [← rim_perm (sortP_perm cs).symm g.ne]
    exact g.rim⟩
theorem eVarB_c {i : Nat} {env : Ev} {δ : List Int} {c : Str} {ks : List Str} {l : List Dat} (h : env[i]? = some (.own (.obj c ks, l))) : eVarB i env δ = some (.obj c ks l, δ) := by
  unfold eVarB
  rw [h]
  rfl
theorem eFld_s {c fld : Str} {f : E} {env : Ev} {δ δ1 : List Int} {ks : List Str} {xs : List Dat} {x : Dat} (h1 : f env δ = some (.obj c ks xs, δ1)) (h2 : (ks.zip xs).lookup fld = some x) : eFld c fld f env δ = some (x, δ1) := by
  unfold eFld
  rw [h1]
  simp [h2]
theorem gFld_s {i : Nat} {c fld : Str} {f : E} {env : Ev} {δ δ1 : List Int} {ks : List Str} {l : List Dat} {x : Dat} (h1 : f env δ = some (x, δ1)) (h2 : env[i]? = some (.own (.obj c ks, l))) (h3 : ks.contains fld = false) (h4 : ks.length < 1000) :
    gFld i c fld f env δ = some (.nx (env.set i (.own (.obj c (ks ++ [fld]), l ++ [x]))) δ1) := by
  unfold gFld
  rw [h1]
  simp only [Option.bind_some]
  rw [h2]
  show (if c = c ∧ ks.contains fld = false ∧ ks.length < 1000 then _ else none) = _
  rw [if_pos ⟨rfl, h3, h4⟩]
theorem floor_ok {cs : List P2} {w : List Nat} {δ : List Int} (g : Gf cs w) : G_p_Floor_init [.lst (cs.map pD)] δ = some (flD (sortP cs) w, δ) := by
  have gs := g.sorted
  have hl := g.le
  have hls := gs.le
  have main : g_p_Floor_init [.own (.obj "Floor" [], []), .val (.lst (cs.map pD)), .un, .un, .un, .un] δ = some (.nx [.own (.obj "Floor" ["_cells", "_first", "_rim"], [.dT ((sortP cs).map kp) (trues (sortP cs)), pD (begM (sortP cs)), .str (S w)]), .val (.lst (cs.map pD)), .val (.lst ((sortP cs).map pD)), .un, .un, .un] δ) := by
    unfold g_p_Floor_init
    apply gSeq_n
    · exact gDrop_s' (eCall_s (aCons_s (eVar_s rfl) aNil_s) rfl (check_ok g))
    apply gSeq_n
    · apply gAsg_s
      · apply eB_s
        · apply aCons_s
          · apply eF_s
            apply fLc_s
            · exact iLst_s (eVar_s rfl)
            · rw [List.length_map]; omega
            · rfl
            · exact lc_pairs (by show 3 < 6; decide) (by show 4 < 6; decide) (by decide) cs
          · exact aNil_s
        · show (toP (cs.map pD)).map (fun ps => Dat.lst ((sortP ps).map pD)) = _
          rw [toP_pD]
          rfl
      · exact rfl
    apply gSeq_n
    · refine gFld_s (ks := []) (l := []) (δ1 := δ) (x := .dT ((sortP cs).map kp) (trues (sortP cs))) ?_ rfl rfl (by decide)
      unfold eDc
      rw [iLst_s (xs := (sortP cs).map pD) (δ1 := δ) (eVar_s rfl)]
      simp only [Option.bind_some]
      rw [if_pos (by rw [List.length_map, Bool.and_eq_true]; exact ⟨decide_eq_true (by omega), rfl⟩)]
      have := dc_loop (env := wipeE [.own (.obj "Floor" [], []), .val (.lst (cs.map pD)), .val (.lst ((sortP cs).map pD)), .un, .un, .un] [5]) (δ := δ) rfl (sortP cs) [] gs.nd
      rw [show (([] : List P2).map kp, trues []) = (([] : List (List Key)), ([] : List Dat)) from rfl] at this
      refine (congrArg (Option.map _) this).trans ?_
      rfl
    apply gSeq_n
    · exact gFld_s (ks := ["_cells"]) (l := [.dT ((sortP cs).map kp) (trues (sortP cs))]) (eCall_s (aCons_s (eVar_s rfl) aNil_s) rfl (first_corner_eq gs.ne (by omega))) rfl rfl (by decide)
    · refine gFld_s (ks := ["_cells", "_first"]) (l := [.dT ((sortP cs).map kp) (trues (sortP cs)), pD (begM (sortP cs))]) (x := .str (S w)) ?_ rfl rfl (by decide)
      apply eCall_s
      · apply aCons_s
        · exact eFld_s (eVarB_c rfl) rfl
        · apply aCons_s
          · apply eCall_s
            · exact aCons_s (eFld_s (eVarB_c rfl) rfl) aNil_s
            · rfl
            · exact rim_steps_eq (by simp [trues]) (corners_once gs.nd gs.rim) (by omega)
          · exact aNil_s
      · rfl
      · exact rim_word_eq gs.ne gs.nd (by omega) gs.rim
  unfold G_p_Floor_init Dl.runI
  show (match g_p_Floor_init [.own (.obj "Floor" [], []), .val (.lst (cs.map pD)), .un, .un, .un, .un] δ with
    | some (.nx env δ') => _
    | _ => _) = _
  rw [main]
  rfl
end Cm

/-! A floor's methods, its rim from a corner, by data. -/
namespace Cm
open PySem PySem.Spec L2 Dl
section
variable {ss : List P2} {w : List Nat} {δ : List Int}
theorem floor_rim : G_p_Floor_rim [flD ss w] δ = some (.str (S w), δ) := by
  refine runG_r ?_
  show g_p_Floor_rim [.val (flD ss w)] δ = _
  unfold g_p_Floor_rim
  exact gRet_s (eFld_s (eVar_s rfl) rfl)
theorem floor_first : G_p_Floor_first [flD ss w] δ = some (pD (begM ss), δ) := by
  refine runG_r ?_
  show g_p_Floor_first [.val (flD ss w)] δ = _
  unfold g_p_Floor_first
  exact gRet_s (eFld_s (eVar_s rfl) rfl)
theorem floor_cells : G_p_Floor_cells [flD ss w] δ = some (.lst (ss.map pD), δ) := by
  refine runG_r ?_
  show g_p_Floor_cells [.val (flD ss w)] δ = _
  unfold g_p_Floor_cells
  apply gRet_s
  apply eB_s
  · exact aCons_s (eFld_s (eVar_s rfl) rfl) aNil_s
  · show some (Dat.lst ((ss.map kp).map ofKeys)) = _
    rw [List.map_map]
    rfl
theorem eMeth0_s {c m : Str} {G : GF} {f : E} {env : Ev} {δ δ1 : List Int} {ks : List Str} {xs : List Dat} {r : Dat × List Int} (h1 : f env δ = some (.obj c ks xs, δ1)) (h2 : ks.contains m = false) (h3 : G [.obj c ks xs] δ1 = some r) : eMeth c m 1 G f aNil env δ = some r := by
  unfold eMeth
  rw [h1]
  show (if c = c ∧ ks.contains m = false then _ else none) = _
  rw [if_pos ⟨rfl, h2⟩]
  exact h3
theorem cutD_neg1 (l : List Dat) : dSl (.lst l) none (some (-1)) = some (.lst l.dropLast) := by
  show some (Dat.lst (cutD l none (some (-1)))) = _
  unfold cutD
  rw [HT.sIx_none]
  have e : HT.sIx l.length l.length (some (-1)) = l.length - 1 := by
    show (if (-1 : Int) < 0 then ((-1 : Int) + (l.length : Int)).toNat else min (-1 : Int).toNat l.length) = _
    rw [if_pos (by decide)]
    omega
  rw [e, List.drop_zero, Nat.sub_zero, List.dropLast_eq_take]
theorem rim_corners_ok (h4 : L4s w) (hl : w.length < 1000) : G_p_rim_corners [flD ss w] δ = some (.lst ((walkM (begM ss) w).map pD), δ) := by
  refine runG_r ?_
  show g_p_rim_corners [.val (flD ss w)] δ = _
  unfold g_p_rim_corners
  apply gRet_s
  apply eSl_s
  · apply eCall_s
    · apply aCons_s
      · exact eMeth0_s (eVar_s rfl) rfl floor_first
      · exact aCons_s (eMeth0_s (eVar_s rfl) rfl floor_rim) aNil_s
    · rfl
    · exact corners_eq h4 (by omega)
  · exact oNone_s
  · exact oSome_s (eUn_s eC_s rfl)
  · refine (cutD_neg1 _).trans ?_
    rw [← List.map_dropLast, walk_path]
theorem ixP_of {p : P2} : ∀ {l : List P2} {j : Nat}, l.Nodup → l[j]? = some p → ixP p l = some j
  | [], j, _, h => by simp at h
  | q :: r, 0, _, h => by
    cases h
    exact if_pos rfl
  | q :: r, j + 1, nd, h => by
    have ⟨n1, n2⟩ := List.nodup_cons.mp nd
    have h : r[j]? = some p := by simpa using h
    have ne : q ≠ p := fun z => n1 (z ▸ List.mem_of_getElem? h)
    show (if q = p then some 0 else (ixP p r).map (· + 1)) = _
    rw [if_neg ne, ixP_of n2 h]
    rfl
theorem rim_from_ok (h4 : L4s w) (hl : w.length < 1000) (nd : (walkM (begM ss) w).Nodup) {p : P2} {j : Nat} (hp : (walkM (begM ss) w)[j]? = some p) :
    G_p_rim_from [flD ss w, pD p] δ = some (.str (S (w.drop j ++ w.take j)), δ) := by
  refine runG_r ?_
  show g_p_rim_from [.val (flD ss w), .val (pD p), .un, .un, .un] δ = _
  unfold g_p_rim_from
  apply gSeq_n
  · exact gAsg_s (eCall_s (aCons_s (eVar_s rfl) aNil_s) rfl (rim_corners_ok h4 hl)) rfl
  apply gSeq_n
  · apply gIf_f
    · apply eTest_s
      apply eOp_s
      · exact eVar_s rfl
      · exact eVar_s rfl
      · rw [dNotIn_pr, decide_eq_false fun z => z (List.mem_of_getElem? hp)]
    · exact gNext_s
  apply gSeq_n
  · apply gAsg_s (x := .int (j : Int))
    · apply eOp_s
      · exact eVar_s rfl
      · exact eVar_s rfl
      · show (toP ((walkM (begM ss) w).map pD)).bind (fun ps => (ixP (p.1, p.2) ps).map fun n => Dat.int (n : Nat)) = _
        rw [toP_pD]
        show (ixP p (walkM (begM ss) w)).map _ = _
        rw [ixP_of nd hp]
        rfl
    · exact rfl
  apply gSeq_n
  · exact gAsg_s (eMeth0_s (eVar_s rfl) rfl floor_rim) rfl
  apply gRet_s
  apply eOp_s
  · apply eSl_s
    · exact eVar_s rfl
    · exact oSome_s (eVar_s rfl)
    · exact oNone_s
    · show (if (S w).length < 1000000 then some (Dat.str (cutS (S w) (some (j : Int)) none)) else none) = some (.str (S (w.drop j)))
      rw [S_len, if_pos (by omega), cut_from]
  · apply eSl_s
    · exact eVar_s rfl
    · exact oNone_s
    · exact oSome_s (eVar_s rfl)
    · show (if (S w).length < 1000000 then some (Dat.str (cutS (S w) none (some (j : Int)))) else none) = some (.str (S (w.take j)))
      rw [S_len, if_pos (by omega), cut_to]
  · rw [dAdd_s (by rw [S_len, S_len, List.length_drop, List.length_take]; omega), S_app]
end
end Cm

/-! Blocks, and blocks with one more, have a rim. -/
namespace Cm
open PySem PySem.Spec L2 Dl
theorem blk_all : ((List.range 6).all fun w => (List.range 8).all fun h => (rimM (blkM (0, 0) (w + 1) (h + 1))).isSome) = true := by decide +kernel
theorem more_1 : ((List.range 8).all fun h => (List.range (h + 1)).all fun j => (rimM (blkM (0, 0) 1 (h + 1) ++ [(1, (j : Int))])).isSome) = true := by decide +kernel
theorem more_2 : ((List.range 8).all fun h => (List.range (h + 1)).all fun j => (rimM (blkM (0, 0) 2 (h + 1) ++ [(2, (j : Int))])).isSome) = true := by decide +kernel
theorem more_3 : ((List.range 8).all fun h => (List.range (h + 1)).all fun j => (rimM (blkM (0, 0) 3 (h + 1) ++ [(3, (j : Int))])).isSome) = true := by decide +kernel
theorem more_4 : ((List.range 8).all fun h => (List.range (h + 1)).all fun j => (rimM (blkM (0, 0) 4 (h + 1) ++ [(4, (j : Int))])).isSome) = true := by decide +kernel
theorem more_5 : ((List.range 8).all fun h => (List.range (h + 1)).all fun j => (rimM (blkM (0, 0) 5 (h + 1) ++ [(5, (j : Int))])).isSome) = true := by decide +kernel
theorem more_6 : ((List.range 8).all fun h => (List.range (h + 1)).all fun j => (rimM (blkM (0, 0) 6 (h + 1) ++ [(6, (j : Int))])).isSome) = true := by decide +kernel
theorem one_rim : (rimM [((0, 0) : P2)]).isSome = true := by decide +kernel
theorem blk_mvd (p : P2) (w h : Nat) : blkM p w h = (blkM (0, 0) w h).map (mvd p) := by
  unfold blkM
  generalize (List.range w).map (fun (i : Nat) => (i : Int)) = ks
  induction ks with
  | nil => rfl
  | cons k ks ih =>
    unfold blockM
    rw [List.map_append, ← ih]
    congr 1
    unfold colM
    rw [List.map_map]
    refine List.map_congr_left fun j _ => ?_
    exact Prod.ext (by show p.1 + k = 0 + k + p.1; omega) (by show p.2 + (j : Int) = 0 + (j : Int) + p.2; omega)
theorem more_all {w h j : Nat} (hw : 1 ≤ w ∧ w ≤ 6) (hh : 1 ≤ h ∧ h ≤ 8) (hj : j < h) : (rimM (blkM (0, 0) w h ++ [((w : Int), (j : Int))])).isSome = true := by
  have pick : ∀ {f : Nat → Nat → Bool}, ((List.range 8).all fun h => (List.range (h + 1)).all fun j => f (h + 1) j) = true → f h j = true := fun {f} z => by
    have := List.all_eq_true.mp (List.all_eq_true.mp z (h - 1) (List.mem_range.mpr (by omega))) j (List.mem_range.mpr (by omega))
    rwa [show h - 1 + 1 = h by omega] at this
  have : w = 1 ∨ w = 2 ∨ w = 3 ∨ w = 4 ∨ w = 5 ∨ w = 6 := by omega
  rcases this with rfl | rfl | rfl | rfl | rfl | rfl
  · exact pick (f := fun h j => (rimM (blkM (0, 0) 1 h ++ [(1, (j : Int))])).isSome) more_1
  · exact pick (f := fun h j => (rimM (blkM (0, 0) 2 h ++ [(2, (j : Int))])).isSome) more_2
  · exact pick (f := fun h j => (rimM (blkM (0, 0) 3 h ++ [(3, (j : Int))])).isSome) more_3
  · exact pick (f := fun h j => (rimM (blkM (0, 0) 4 h ++ [(4, (j : Int))])).isSome) more_4
  · exact pick (f := fun h j => (rimM (blkM (0, 0) 5 h ++ [(5, (j : Int))])).isSome) more_5
  · exact pick (f := fun h j => (rimM (blkM (0, 0) 6 h ++ [(6, (j : Int))])).isSome) more_6
/-- what the laws draw has a rim, wherever it is moved to -/
theorem shp_rim {cs : List P2} (s : Shp cs) (t : P2) : ∃ w, rimM (cs.map (mvd t)) = some w := by
  rw [rim_mvd t s.ne]
  refine Option.isSome_iff_exists.mp ?_
  cases s with
  | grw g _ =>
    rcases g.rm with h | h
    · cases e : rimM cs with
      | none => exact absurd e h
      | some w => rfl
    · obtain ⟨p, rfl⟩ := List.length_eq_one_iff.mp h
      have : [p] = [((0, 0) : P2)].map (mvd p) := by
        show [p] = [mvd p (0, 0)]
        congr 1
        exact Prod.ext (Int.zero_add _).symm (Int.zero_add _).symm
      rw [this, rim_mvd p (by simp)]
      exact one_rim
  | blk p w h h1 h2 e =>
    rw [e, blk_mvd, rim_mvd p (by
      intro z
      have := congrArg List.length z
      rw [blk_len] at this
      have := Nat.mul_pos (show 0 < h by omega) (show 0 < w by omega)
      simp at *
      omega)]
    have := List.all_eq_true.mp (List.all_eq_true.mp blk_all (w - 1) (List.mem_range.mpr (by omega))) (h - 1) (List.mem_range.mpr (by omega))
    rwa [show w - 1 + 1 = w by omega, show h - 1 + 1 = h by omega] at this
  | more p w h j h1 h2 hj e =>
    have : blkM p w h ++ [(p.1 + w, p.2 + j)] = (blkM (0, 0) w h ++ [((w : Int), (j : Int))]).map (mvd p) := by
      rw [List.map_append, ← blk_mvd]
      congr 1
      show [_] = [mvd p _]
      congr 1
      exact Prod.ext (by show p.1 + (w : Int) = (w : Int) + p.1; omega) (by show p.2 + (j : Int) = (j : Int) + p.2; omega)
    rw [e, this, rim_mvd p (by simp)]
    exact more_all ⟨h2.1, h2.2.1⟩ ⟨h2.2.2.1, h2.2.2.2⟩ hj
end Cm

/-! What rims from any corner want, plainly. -/
namespace Cm
open PySem PySem.Spec L2 Dl
theorem path_walk : ∀ (w : List Nat) (q : P2), q :: pathM q w = walkM q w ++ [endM q w]
  | [], _ => rfl
  | c :: w, q => by
    show q :: go1 q c :: pathM (go1 q c) w = q :: (walkM (go1 q c) w ++ [endM (go1 q c) w])
    rw [path_walk w (go1 q c)]
theorem endM_app (u v : List Nat) (q : P2) : endM q (u ++ v) = endM (endM q u) v := by
  unfold endM
  rw [List.foldl_append]
theorem walk_app : ∀ (u v : List Nat) (q : P2), walkM q (u ++ v) = walkM q u ++ walkM (endM q u) v
  | [], _, _ => rfl
  | c :: u, v, q => congrArg (q :: ·) (walk_app u v (go1 q c))
theorem walk_at {w : List Nat} {k : Nat} (q : P2) (h : k < w.length) : (walkM q w)[k]? = some (endM q (w.take k)) := by
  have e := walk_app (w.take k) (w.drop k) q
  rw [List.take_append_drop] at e
  have l : (walkM q (w.take k)).length = k := by rw [walk_len, List.length_take]; omega
  rw [e, List.getElem?_append_right (by omega), l, Nat.sub_self]
  cases hd : w.drop k with
  | nil =>
    have := congrArg List.length hd
    simp at this
    omega
  | cons c r => rfl
/-- a rim's corners from its k-th on -/
theorem spots_from {w : List Nat} {b : P2} (hb : endM b w = b) (k : Nat) (hk : k ≤ w.length) :
    endM b (w.take k) :: pathM (endM b (w.take k)) (w.drop k ++ w.take k) = (b :: pathM b w).dropLast.drop k ++ (b :: pathM b w).take (k + 1) := by
  have e := walk_app (w.take k) (w.drop k) b
  rw [List.take_append_drop] at e
  have l : (walkM b (w.take k)).length = k := by rw [walk_len, List.length_take]; omega
  have hb2 : endM (endM b (w.take k)) (w.drop k) = b := by rw [← endM_app, List.take_append_drop, hb]
  have h1 : (b :: pathM b w).dropLast.drop k = walkM (endM b (w.take k)) (w.drop k) := by
    rw [walk_path, e, List.drop_left' l]
  have h2 : (b :: pathM b w).take (k + 1) = walkM b (w.take k) ++ [endM b (w.take k)] := by
    rw [path_walk, e, List.append_assoc]
    by_cases hk2 : k < w.length
    · cases hd : w.drop k with
      | nil =>
        have := congrArg List.length hd
        simp at this
        omega
      | cons c r =>
        show List.take (k + 1) (walkM b (w.take k) ++ (endM b (w.take k) :: (walkM _ r ++ _))) = _
        rw [List.take_append, l, show k + 1 - k = 1 by omega, List.take_of_length_le (by omega)]
        rfl
    · have hke : k = w.length := by omega
      subst hke
      rw [List.drop_length, List.take_length] at *
      show List.take (w.length + 1) (walkM b w ++ ([] ++ [endM b w])) = _
      rw [List.nil_append, List.take_of_length_le (by simp [walk_len])]
  rw [path_walk, walk_app, hb2, h1, h2, endM_app, hb2, List.append_assoc]
theorem cut_kneg (l : List Dat) (k : Nat) : dSl (.lst l) (some (k : Int)) (some (-1)) = some (.lst (l.dropLast.drop k)) := by
  show some (Dat.lst (cutD l (some (k : Int)) (some (-1)))) = _
  unfold cutD
  rw [HT.sIx_nat]
  have e : HT.sIx l.length l.length (some (-1)) = l.length - 1 := by
    show (if (-1 : Int) < 0 then ((-1 : Int) + (l.length : Int)).toNat else min (-1 : Int).toNat l.length) = _
    rw [if_pos (by decide)]
    omega
  rw [e, List.dropLast_eq_take, List.drop_take]
  congr 2
  by_cases h : k ≤ l.length
  · rw [Nat.min_eq_left h]
  · rw [Nat.min_eq_right (by omega), List.drop_of_length_le (Nat.le_refl _), List.drop_of_length_le (by omega)]
    simp
theorem cut_upto (l : List Dat) (k : Nat) : dSl (.lst l) none (some (k : Int)) = some (.lst (l.take k)) := by
  show some (Dat.lst (cutD l none (some (k : Int)))) = _
  unfold cutD
  rw [HT.sIx_none, HT.sIx_nat, List.drop_zero, Nat.sub_zero]
  congr 2
  by_cases h : k ≤ l.length
  · rw [Nat.min_eq_left h]
  · rw [Nat.min_eq_right (by omega), List.take_of_length_le (by omega), List.take_of_length_le (by omega)]
theorem once_len {l : List P2} {b : P2} (nd : l.Nodup) (hb : b ∈ l) : (onceP (l ++ [b])).length = l.length :=
  len_eq_of (nd_once _) nd fun x => by
    rw [mem_once, List.mem_append, List.mem_singleton]
    exact ⟨fun z => z.elim id fun e => e ▸ hb, .inl⟩
/-- how often a letter stands -/
theorem count_S (w : List Nat) (c : Nat) : dCount (.str (S w)) (.str (S [c])) = some (.int (w.count c : Nat)) := by
  show some (Dat.int (Txt.count (S w) ⟨#[c]⟩)) = _
  rw [PyProof.Rows.count_cnt]
  have : ∀ v : List Nat, PyProof.Rows.cnt c v = (v.count c : Nat) := fun v => by
    induction v with
    | nil => rfl
    | cons d v ih =>
      rw [PyProof.Rows.cnt_cons, ih, List.count_cons]
      by_cases h : d = c
      · subst h; simp; omega
      · simp [h]
  rw [show (S w).cps.toList = w from List.toList_toArray, this]
theorem end_fst : ∀ (w : List Nat) (p : P2), L4s w → (endM p w).1 = p.1 + (w.count 101 : Nat) - (w.count 119 : Nat) ∧ (endM p w).2 = p.2 + (w.count 110 : Nat) - (w.count 115 : Nat)
  | [], p, _ => by simp [endM]
  | c :: w, p, h => by
    obtain ⟨h1, h2⟩ := end_fst w (go1 p c) fun d hd => h d (List.mem_cons_of_mem _ hd)
    have e : endM p (c :: w) = endM (go1 p c) w := rfl
    rw [e, h1, h2]
    simp only [List.count_cons]
    rcases h c List.mem_cons_self with rfl | rfl | rfl | rfl <;> simp [go1, mv] <;> omega
theorem counts_eq {w : List Nat} {b : P2} (h4 : L4s w) (hb : endM b w = b) : w.count 119 = w.count 101 ∧ w.count 115 = w.count 110 := by
  obtain ⟨h1, h2⟩ := end_fst w b h4
  rw [hb] at h1 h2
  omega
end Cm

/-! A drawn floor of twenty cells has a short rim; a word turned. -/
namespace Cm
open PySem PySem.Spec L2 Dl
theorem box_len {cs sn : List P2} {w : List Nat} {p : P2} {W H : Nat} (box : ∀ q ∈ cs, p.1 ≤ q.1 ∧ q.1 < p.1 + W ∧ p.2 ≤ q.2 ∧ q.2 < p.2 + H) (nd : sn.Nodup) (hl : sn.length = w.length) (hw : ∀ x ∈ sn.zip w, waysM cs x.1 = [x.2]) : sn.length ≤ (H + 1) * (W + 1) := by
  have e : (blkM p (W + 1) (H + 1)).length = (H + 1) * (W + 1) := blk_len
  rw [← e]
  refine len_le_of nd fun s hs => ?_
  obtain ⟨i, hi, e1⟩ := List.getElem_of_mem hs
  have hz : (s, w[i]'(by omega)) ∈ sn.zip w := by
    have hzi : i < (sn.zip w).length := by rw [List.length_zip]; omega
    have : (sn.zip w)[i] = (s, w[i]'(by omega)) := by rw [List.getElem_zip, e1]
    rw [← this]
    exact List.getElem_mem hzi
  generalize w[i]'(by omega) = c at hz
  have hc : c ∈ waysM cs s := by rw [hw _ hz]; exact List.mem_singleton.mpr rfl
  have ok := (List.mem_filter.mp hc).2
  have l4 := ways_L4 c hc
  unfold okW at ok
  rw [Bool.and_eq_true] at ok
  have hm := box _ (of_decide_eq_true ok.1)
  rw [mem_blk]
  rcases l4 with rfl | rfl | rfl | rfl <;> simp [lcell] at hm <;> omega
theorem len_counts : ∀ {w : List Nat}, L4s w → w.length = w.count 101 + w.count 110 + w.count 119 + w.count 115
  | [], _ => rfl
  | c :: w, h => by
    have ih := len_counts (w := w) fun d hd => h d (List.mem_cons_of_mem _ hd)
    rw [List.length_cons, ih]
    simp only [List.count_cons]
    rcases h c List.mem_cons_self with rfl | rfl | rfl | rfl <;> simp <;> omega
/-- the rim of what the laws draw, of at most twenty cells -/
theorem shp_short {cs : List P2} {w : List Nat} (s : Shp cs) (hl : cs.length ≤ 20) (h : rimM cs = some w) (h4 : L4s w) (hb : endM (begM cs) w = begM cs) : w.length ≤ 62 := by
  obtain ⟨sn, hsl, sn1, hp, hw, hm, _⟩ := rim_all s.nd h
  have par := len_counts h4
  obtain ⟨p1, p2⟩ := counts_eq h4 hb
  have big : sn.length ≤ 63 → w.length ≤ 62 := fun z => by omega
  cases s with
  | grw g per =>
    rcases per with per | ⟨p, box⟩
    · omega
    · exact big (box_len (W := 6) (H := 8) (fun q hq => box q hq) sn1 hsl hw)
  | blk p W H h1 h2 e =>
    refine big (Nat.le_trans (box_len (W := W) (H := H) (fun q hq => mem_blk.mp (e ▸ hq)) sn1 hsl hw) ?_)
    have a1 : (H + 1) * (W + 1) ≤ 9 * 7 := Nat.mul_le_mul (by omega) (by omega)
    omega
  | more p W H j h1 h2 hj e =>
    have hn : H * W + 1 ≤ 20 := by
      rw [e, List.length_append, blk_len] at hl
      simpa using hl
    have := box_len (W := W + 1) (H := H) (p := p) (fun q hq => by
      rw [e] at hq
      rcases List.mem_append.mp hq with hq | hq
      · have := mem_blk.mp hq
        omega
      · rw [List.mem_singleton.mp hq]
        show p.1 ≤ p.1 + (W : Int) ∧ p.1 + (W : Int) < p.1 + ((W + 1 : Nat) : Int) ∧ p.2 ≤ p.2 + (j : Int) ∧ p.2 + (j : Int) < p.2 + (H : Int)
        omega) sn1 hsl hw
    have c : W = 1 ∨ W = 2 ∨ W = 3 ∨ W = 4 ∨ W = 5 ∨ W = 6 := by omega
    rcases c with rfl | rfl | rfl | rfl | rfl | rfl <;> omega
section
variable {a b : List Nat} {m : Nat}
/-- nothing from one corner, nothing from any -/
theorem Pr.img_rot (k : Pr a b m) {u v : List Nat} (hu : L4s u) (hv : L4s v) (h : imgA a b m (u ++ v) = List.range m) : imgA a b m (v ++ u) = List.range m := by
  have hi := inv_L4 hu
  -- x goes to the points in order by u
  have px : Pts m ((invM u).foldl (Cm.act a b) (List.range m)) := k.img_pts hi
  have e1 : u.foldl (Cm.act a b) ((invM u).foldl (Cm.act a b) (List.range m)) = List.range m := by
    have := fold_inv k.hP k.hB (invM u) (List.range m) hi rangePts
    rwa [inv_inv hu, List.foldl_append] at this
  have huv : L4s (u ++ v) := fun c hc => (List.mem_append.mp hc).elim (hu c) (hv c)
  have e2 : (u ++ v).foldl (Cm.act a b) ((invM u).foldl (Cm.act a b) (List.range m)) = (invM u).foldl (Cm.act a b) (List.range m) := by
    rw [k.fold_map (u ++ v) _ huv px]
    have h' : (u ++ v).foldl (Cm.act a b) (List.range m) = List.range m := h
    rw [h']
    exact (List.map_congr_left fun p hp => getD_range (px p hp)).trans (List.map_id' _)
  rw [List.foldl_append, e1] at e2
  show (v ++ u).foldl (Cm.act a b) (List.range m) = List.range m
  rw [List.foldl_append, e2, e1]
theorem Pr.img_turn (k : Pr a b m) {w : List Nat} (hw : L4s w) (i : Nat) : imgA a b m (w.drop i ++ w.take i) = List.range m ↔ imgA a b m w = List.range m := by
  have h1 : L4s (w.drop i) := fun c hc => hw c (List.mem_of_mem_drop hc)
  have h2 : L4s (w.take i) := fun c hc => hw c (List.mem_of_mem_take hc)
  constructor
  · intro h
    have := k.img_rot h1 h2 h
    rwa [List.take_append_drop] at this
  · intro h
    refine k.img_rot h2 h1 ?_
    rwa [List.take_append_drop]
end
theorem eqv_nn : ∀ l m : List Nat, PyData.eqvAll (l.map nP) (m.map nP) = decide (l = m)
  | [], [] => by simp [PyData.eqvAll]
  | [], _ :: _ => by simp [PyData.eqvAll]
  | _ :: _, [] => by simp [PyData.eqvAll]
  | p :: l, q :: m => by
    have e : PyData.eqv (nP p) (nP q) = decide (p = q) := by
      simp only [nP, PyData.eqv, Bool.beq_eq_decide_eq]
      by_cases h : p = q
      · subst h; simp
      · simp [h]; omega
    simp only [List.map_cons, PyData.eqvAll, e, eqv_nn l m, List.cons.injEq]
    by_cases h : p = q <;> by_cases h' : l = m <;> simp [h, h']
theorem dEq_tt (l m : List Nat) : dEq (tD l) (tD m) = some (.bl (decide (l = m))) := by
  unfold dEq eqD
  rw [toPy_t, toPy_t]
  simp only [Option.bind_some, sh_t, Bool.and_self, if_true]
  unfold tP
  simp only [PyData.eqv, eqv_nn]
  rfl
theorem dNe_bb (c : Bool) : dNe (.bl c) (.bl c) = some (.bl false) := by cases c <;> rfl
end Cm

/-! The law of rims from any corner, by data; how a floor is written (Gw) and read (Gr) is asked for. -/
namespace Cm
open PySem PySem.Spec L2 Dl
abbrev R_rim : List Dat → List Int → List Int → Prop := fun xs δ δ' => ∃ env1 δ1, (gAsg (tgName 2) (eCall G_p_rim_corners (["floor"] : List Str).length (aCons (eVar 0) aNil))) (startE N_p_rim_from xs) δ = some (.nx env1 δ1) ∧ (eTest (eOp dNotIn (eVar 1) (eVar 2))) env1 δ1 = some (true, δ')
abbrev N_31 : List Str := ["_law_script", "_law_d", "_law_cells_here", "_law_floor", "_law_pair", "_law_due", "_law_spots", "_law_nothing", "_law_k", "_law_word", "_law_aside", "_law_up", "_law_other", "_law_many", "_law_x", "_law_y"]
def b31 : Sg := (gSeq (gAsg (tgName 9) (eCall G_p_rim_from (["floor", "corner"] : List Str).length (aCons (eVar 3) (aCons (eOp dIx (eVar 6) (eVar 8)) aNil))))
    (gSeq (gIf (eTest (eOp dNe (eVar 9) (eOp dAdd (eSl (eVar 5) (oSome (eVar 8)) oNone) (eSl (eVar 5) oNone (oSome (eVar 8)))))) (gRet (eC (.bl false))) gNext)
    (gSeq (gIf (eTest (eOp dNe (eCall G_p_corners (["corner", "word"] : List Str).length (aCons (eOp dIx (eVar 6) (eVar 8)) (aCons (eVar 9) aNil))) (eOp dAdd (eSl (eVar 6) (oSome (eVar 8)) (oSome (eUn dNeg (eC (.int 1))))) (eSl (eVar 6) oNone (oSome (eOp dAdd (eVar 8) (eC (.int 1)))))))) (gRet (eC (.bl false))) gNext)
    (gIf (eAndT (eTest (eOp dLt (eB dLen (aCons (eVar 9) aNil)) (eC (.int 61)))) (eTest (eOp dNe (eOp dEq (eCall G_p_image (["word", "pair"] : List Str).length (aCons (eVar 9) (aCons (eVar 4) aNil))) (eVar 7)) (eOp dEq (eCall G_p_image (["word", "pair"] : List Str).length (aCons (eVar 5) (aCons (eVar 4) aNil))) (eVar 7))))) (gRet (eC (.bl false))) gNext))))
noncomputable def g31 (Gw Gr : GF) : Sg :=
    (gSeq (gAsg (tgName 2) (eCall G_l_cells (["_law_d", "_law_most"] : List Str).length (aCons (eVar 1) (aCons (eC (.int 20)) aNil))))
    (gSeq (gIf (eOrT (eTest (eOp dIsN (eCall G_l_rim (["_law_cells_here"] : List Str).length (aCons (eVar 2) aNil)) (eC .non))) (eTest (eOp dGt (eB dLen (aCons (eVar 2) aNil)) (eC (.int 20))))) (gAsg (tgName 2) (eCall G_l_block (["_law_x", "_law_y", "_law_wide", "_law_high"] : List Str).length (aCons (eC (.int 1)) (aCons (eC (.int 2)) (aCons (eC (.int 3)) (aCons (eC (.int 3)) aNil)))))) gNext)
    (gSeq (gPar3 3 4 5 (aCons (eCall G_p_Floor_init ((["self", "cells"] : List Str).length - 1) (aCons (eVar 2) aNil)) (aCons (eCall G_l_two_orders (["_law_d"] : List Str).length (aCons (eVar 1) aNil)) (aCons (eCall G_l_rim (["_law_cells_here"] : List Str).length (aCons (eVar 2) aNil)) aNil))))
    (gSeq (gIf (eTest (eOp dNe (eMeth "Floor" "rim" (["self"] : List Str).length G_p_Floor_rim (eVar 3) aNil) (eVar 5))) (gRet (eC (.bl false))) gNext)
    (gSeq (gIf (eTest (eOp dNe (eMeth "Floor" "first" (["self"] : List Str).length G_p_Floor_first (eVar 3) aNil) (eCall G_l_begin (["_law_cells_here"] : List Str).length (aCons (eVar 2) aNil)))) (gRet (eC (.bl false))) gNext)
    (gSeq (gIf (eTest (eOp dNe (eMeth "Floor" "cells" (["self"] : List Str).length G_p_Floor_cells (eVar 3) aNil) (eB dSorted (aCons (eVar 2) aNil)))) (gRet (eC (.bl false))) gNext)
    (gSeq (gPar 6 7 (aCons (eCall G_p_corners (["corner", "word"] : List Str).length (aCons (eMeth "Floor" "first" (["self"] : List Str).length G_p_Floor_first (eVar 3) aNil) (aCons (eVar 5) aNil))) (aCons (eTupRg (eB dLen (aCons (eOp dIx (eVar 4) (eC (.int 0))) aNil))) aNil)))
    (gSeq (gIf (eOrT (eTest (eOp dNe (eOp dIx (eVar 6) (eUn dNeg (eC (.int 1)))) (eOp dIx (eVar 6) (eC (.int 0))))) (eTest (eOp dNe (eLenSet (eVar 6)) (eB dLen (aCons (eVar 5) aNil))))) (gRet (eC (.bl false))) gNext)
    (gSeq (gFor (iR1 (aCons (eB dLen (aCons (eVar 5) aNil)) aNil)) (tgName 8) b31)
    (gSeq (gTryP (aCons (eVar 3) (aCons (eTup (aCons (eC (.int 12)) (aCons (eC (.int 13)) aNil))) aNil)) (["floor", "corner"] : List Str).length R_rim)
    (gSeq (gAsg (tgTup 2 (tgCons (tgName 10) (tgCons (tgName 11) tgNil))) (eTup (aCons (eB dMin (aCons (eF (fLc (iLst (eVar 2)) (tgTup 2 (tgCons (tgName 14) (tgCons (tgName 15) tgNil))) eYes (eVar 14) [14, 15])) aNil)) (aCons (eB dMin (aCons (eF (fLc (iLst (eVar 2)) (tgTup 2 (tgCons (tgName 14) (tgCons (tgName 15) tgNil))) eYes (eVar 15) [14, 15])) aNil)) aNil))))
    (gSeq (gAsg (tgName 12) (eCall G_p_Floor_init ((["self", "cells"] : List Str).length - 1) (aCons (eF (fLc (iLst (eRevL (eVar 2))) (tgTup 2 (tgCons (tgName 14) (tgCons (tgName 15) tgNil))) eYes (eTup (aCons (eOp dSub (eVar 14) (eVar 10)) (aCons (eOp dSub (eVar 15) (eVar 11)) aNil))) [14, 15])) aNil)))
    (gSeq (gIf (eTest (eOp dNe (eMeth "Floor" "rim" (["self"] : List Str).length G_p_Floor_rim (eVar 12) aNil) (eVar 5))) (gRet (eC (.bl false))) gNext)
    (gSeq (gIf (eTest (eOp dNe (eMeth "Floor" "first" (["self"] : List Str).length G_p_Floor_first (eVar 12) aNil) (eTup (aCons (eOp dSub (eOp dIx (eOp dIx (eVar 6) (eC (.int 0))) (eC (.int 0))) (eVar 10)) (aCons (eOp dSub (eOp dIx (eOp dIx (eVar 6) (eC (.int 0))) (eC (.int 1))) (eVar 11)) aNil))))) (gRet (eC (.bl false))) gNext)
    (gSeq (gAsg (tgName 13) (eDisp [.inr "e", .inr "n"] (aCons (eOp dCount (eVar 5) (eC (.str "e"))) (aCons (eOp dCount (eVar 5) (eC (.str "n"))) aNil))))
    (gRet (eAnd (eOp dEq (eOp dCount (eVar 5) (eC (.str "w"))) (eOp dGetK (eVar 13) (eC (.str "e")))) (eAnd (eOp dEq (eOp dCount (eVar 5) (eC (.str "s"))) (eOp dGetK (eVar 13) (eC (.str "n")))) (eOp dEq (eMeth "Floor" "cells" (["self"] : List Str).length G_p_Floor_cells (eCall Gr (["text"] : List Str).length (aCons (eCall Gw (["floor"] : List Str).length (aCons (eVar 3) aNil)) aNil)) aNil) (eB dSorted (aCons (eVar 2) aNil)))))))))))))))))))))

theorem sl31 {w : List Nat} {lo hi : Option Int} (h : w.length < 1000000) : dSl (.str (S w)) lo hi = some (.str (cutS (S w) lo hi)) := by
  show (if (S w).length < 1000000 then some (Dat.str (cutS (S w) lo hi)) else none) = _
  rw [S_len, if_pos h]
theorem add31 {v w : List Nat} (hv : v.length < 1000) (hw : w.length < 1000) : dAdd (.str (S v)) (.str (S w)) = some (.str (S (v ++ w))) := by
  rw [dAdd_s (by rw [S_len, S_len]; omega), S_app]
section
variable {cs ss : List P2} {w : List Nat} {a b : List Nat} {m : Nat} {δ : List Int}
/-- a turn of the law's loop -/
theorem turn31 (R : Rm ss w) (k : Pr a b m) (hP : w.length ≤ 62) {i : Nat} (h : i < w.length) (s9 : Dl.Slot) : ∃ s9', b31 [.un, .val .dice, .val (.lst (cs.map pD)), .val (flD ss w), .val (prD a b), .val (.str (S w)), .val (.lst ((begM ss :: pathM (begM ss) w).map pD)), .val (tD (List.range m)), .val (.int (i : Int)), s9, .un, .un, .un, .un, .un, .un] δ =
    some (.nx [.un, .val .dice, .val (.lst (cs.map pD)), .val (flD ss w), .val (prD a b), .val (.str (S w)), .val (.lst ((begM ss :: pathM (begM ss) w).map pD)), .val (tD (List.range m)), .val (.int (i : Int)), s9', .un, .un, .un, .un, .un, .un] δ) := by
  have hp := walk_at (begM ss) h
  have hsp : (begM ss :: pathM (begM ss) w)[i]? = some (endM (begM ss) (w.take i)) := by
    rw [path_walk, List.getElem?_append_left (by rw [walk_len]; exact h), hp]
  have hix : dIx (.lst ((begM ss :: pathM (begM ss) w).map pD)) (.int (i : Int)) = some (pD (endM (begM ss) (w.take i))) := atI_nat' rfl (by rw [List.getElem?_map, hsp]; rfl)
  have l4 : L4s (w.drop i ++ w.take i) := fun c hc => R.l4 c ((List.mem_append.mp hc).elim (fun z => List.mem_of_mem_drop z) (fun z => List.mem_of_mem_take z))
  have lt : ∀ c ∈ w.drop i ++ w.take i, c < 128 := fun c hc => (l4 c hc).lt
  have ll : (w.drop i ++ w.take i).length = w.length := by rw [List.length_append, List.length_drop, List.length_take]; omega
  have ep := spots_from R.back i (by omega)
  have lp := path_len w (begM ss)
  refine ⟨.val (.str (S (w.drop i ++ w.take i))), ?_⟩
  unfold b31
  apply gSeq_n
  · exact gAsg_s (eCall_s (aCons_s (eVar_s rfl) (aCons_s (eOp_s (eVar_s rfl) (eVar_s rfl) hix) aNil_s)) rfl (rim_from_ok R.l4 (by omega) R.once hp)) rfl
  apply gSeq_n
  · apply gIf_f
    · apply eTest_s
      apply eOp_s
      · exact eVar_s rfl
      · apply eOp_s
        · exact eSl_s (eVar_s rfl) (oSome_s (eVar_s rfl)) oNone_s ((sl31 (by omega)).trans (by rw [cut_from]))
        · exact eSl_s (eVar_s rfl) oNone_s (oSome_s (eVar_s rfl)) ((sl31 (by omega)).trans (by rw [cut_to]))
        · exact add31 (by rw [List.length_drop]; omega) (by rw [List.length_take]; omega)
      · exact (dNe_S lt lt).trans (by rw [decide_eq_true rfl]; rfl)
    · exact gNext_s
  apply gSeq_n
  · apply gIf_f
    · apply eTest_s
      apply eOp_s
      · exact eCall_s (aCons_s (eOp_s (eVar_s rfl) (eVar_s rfl) hix) (aCons_s (eVar_s rfl) aNil_s)) rfl (corners_eq l4 (by omega))
      · apply eOp_s
        · exact eSl_s (eVar_s rfl) (oSome_s (eVar_s rfl)) (oSome_s (zz := -1) (eUn_s eC_s rfl)) (cut_kneg _ i)
        · exact eSl_s (eVar_s rfl) oNone_s (oSome_s (zz := ((i + 1 : Nat) : Int)) (eOp_s (eVar_s rfl) eC_s dAdd_i)) (cut_upto _ (i + 1))
        · exact dAdd_l (by simp only [List.length_drop, List.length_take, List.length_dropLast, List.length_map, List.length_cons, lp]; omega)
      · have e : ((begM ss :: pathM (begM ss) w).map pD).dropLast.drop i ++ ((begM ss :: pathM (begM ss) w).map pD).take (i + 1) = (endM (begM ss) (w.take i) :: pathM (endM (begM ss) (w.take i)) (w.drop i ++ w.take i)).map pD := by
          rw [ep, List.map_append, List.map_drop, List.map_take, List.map_dropLast]
        rw [e]
        unfold dNe
        rw [eqD_prs, decide_eq_true rfl]
        rfl
    · exact gNext_s
  have e1 := k.image (δ := δ) l4 (by omega)
  have e2 := k.image (δ := δ) R.l4 (by omega)
  have iff := k.img_turn R.l4 i
  apply gIf_f
  · by_cases h61 : w.length < 61
    · apply eAndT_t (k := false)
      · apply eTest_s
        exact eOp_s (eB_s (aCons_s (eVar_s rfl) aNil_s) (dLen_S (by omega))) eC_s (dLt_i.trans (by rw [decide_eq_true (by omega)]))
      · apply eTest_s
        apply eOp_s
        · exact eOp_s (eCall_s (aCons_s (eVar_s rfl) (aCons_s (eVar_s rfl) aNil_s)) rfl e1) (eVar_s rfl) (dEq_tt _ _)
        · exact eOp_s (eCall_s (aCons_s (eVar_s rfl) (aCons_s (eVar_s rfl) aNil_s)) rfl e2) (eVar_s rfl) (dEq_tt _ _)
        · rw [show decide (imgA a b m (w.drop i ++ w.take i) = List.range m) = decide (imgA a b m w = List.range m) from decide_eq_decide.mpr iff]
          exact dNe_bb _
    · apply eAndT_f
      apply eTest_s
      exact eOp_s (eB_s (aCons_s (eVar_s rfl) aNil_s) (dLen_S (by omega))) eC_s (dLt_i.trans (by rw [decide_eq_false (by omega)]))
  · exact gNext_s
theorem turns31 (R : Rm ss w) (k : Pr a b m) (hP : w.length ≤ 62) : ∀ (n i : Nat), i + n = w.length → ∀ s8 s9, ∃ s8' s9', forD (tgName 8) b31 ((List.range' i n).map fun (j : Nat) => Dat.int (j : Int)) [.un, .val .dice, .val (.lst (cs.map pD)), .val (flD ss w), .val (prD a b), .val (.str (S w)), .val (.lst ((begM ss :: pathM (begM ss) w).map pD)), .val (tD (List.range m)), s8, s9, .un, .un, .un, .un, .un, .un] δ =
    some (.nx [.un, .val .dice, .val (.lst (cs.map pD)), .val (flD ss w), .val (prD a b), .val (.str (S w)), .val (.lst ((begM ss :: pathM (begM ss) w).map pD)), .val (tD (List.range m)), s8', s9', .un, .un, .un, .un, .un, .un] δ)
  | 0, i, h, s8, s9 => ⟨s8, s9, rfl⟩
  | n + 1, i, h, s8, s9 => by
    obtain ⟨t9, e9⟩ := turn31 (cs := cs) (δ := δ) R k hP (i := i) (by omega) s9
    obtain ⟨s8', s9', e⟩ := turns31 R k hP n (i + 1) (by omega) (.val (.int (i : Int))) t9
    refine ⟨s8', s9', ?_⟩
    rw [List.range'_succ, List.map_cons]
    exact forD_n rfl e9 e
end
end Cm

/-! The law of rims from any corner is true, where what is written of a floor is read as that floor. -/
namespace Cm
open PySem PySem.Spec L2 Dl
/-- a corner of the rim lies at most at 12 -/
theorem Gf.low {cs : List P2} {w : List Nat} (g : Gf cs w) : ∀ s ∈ walkM (begM cs) w, s.1 ≤ 12 ∧ s.2 ≤ 12 := by
  obtain ⟨sn, hsl, sn1, hp, hw, hm, h', hr, hh⟩ := rim_all g.nd g.rim
  obtain ⟨v, e1, e2, e3⟩ := rimR_walk hr
  rw [List.nil_append] at e1 e2
  subst e1
  subst e2
  intro s hs
  obtain ⟨i, hi, e⟩ := List.getElem_of_mem hs
  have hz : (s, w[i]'(by omega)) ∈ (walkM (begM cs) w).zip w := by
    have hzi : i < ((walkM (begM cs) w).zip w).length := by rw [List.length_zip]; omega
    have : ((walkM (begM cs) w).zip w)[i] = (s, w[i]'(by omega)) := by rw [List.getElem_zip, e]
    rw [← this]
    exact List.getElem_mem hzi
  generalize w[i]'(by omega) = c at hz
  have hc : c ∈ waysM cs s := by rw [hw _ hz]; exact List.mem_singleton.mpr rfl
  have ok := (List.mem_filter.mp hc).2
  have l4 := ways_L4 c hc
  unfold okW at ok
  rw [Bool.and_eq_true] at ok
  have hb := g.inb _ (of_decide_eq_true ok.1)
  unfold inB at hb
  simp only [Bool.and_eq_true, decide_eq_true_eq] at hb
  rcases l4 with rfl | rfl | rfl | rfl <;> simp [lcell] at hb <;> omega
theorem dSorted_s (cs : List P2) : dSorted [.lst (cs.map pD)] = some (.lst ((sortP cs).map pD)) := by
  show (toP (cs.map pD)).map _ = _
  rw [toP_pD]
  rfl
theorem lst_ne (l : List P2) : dNe (.lst (l.map pD)) (.lst (l.map pD)) = some (.bl false) := by
  unfold dNe
  rw [eqD_prs, decide_eq_true rfl]
  rfl
theorem lst_eq (l : List P2) : dEq (.lst (l.map pD)) (.lst (l.map pD)) = some (.bl true) := by
  unfold dEq
  rw [eqD_prs, decide_eq_true rfl]
  rfl
theorem pr_ne (p : P2) : dNe (pD p) (pD p) = some (.bl false) := (dNe_pr p p).trans (by rw [decide_eq_true rfl]; rfl)
/-- the floor moved to the edges, its cells handed in the other way round -/
theorem Gf.moved {cs : List P2} {w : List Nat} (g : Gf cs w) : Gf (cs.reverse.map (mvd (-(minI (cs.map (·.1))), -(minI (cs.map (·.2)))))) w ∧ begM (cs.reverse.map (mvd (-(minI (cs.map (·.1))), -(minI (cs.map (·.2)))))) = mvd (-(minI (cs.map (·.1))), -(minI (cs.map (·.2)))) (begM cs) := by
  have hr : cs.reverse ≠ [] := fun z => g.ne (List.reverse_eq_nil_iff.mp z)
  have x0 := minI_mem (ks := cs.map (·.1)) (by simpa using g.ne)
  have y0 := minI_mem (ks := cs.map (·.2)) (by simpa using g.ne)
  obtain ⟨px, hpx, ex⟩ := List.mem_map.mp x0
  obtain ⟨py, hpy, ey⟩ := List.mem_map.mp y0
  have bx := g.inb _ hpx
  have bY := g.inb _ hpy
  unfold inB at bx bY
  simp only [Bool.and_eq_true, decide_eq_true_eq] at bx bY
  refine ⟨⟨?_, fun q hq => ?_, by simpa using g.ne, by rw [List.length_map, List.length_reverse]; exact g.le, ?_⟩, ?_⟩
  · exact List.pairwise_map.mpr (((List.reverse_perm cs).nodup_iff.mpr g.nd).imp fun {a b} hab z => hab (mvd_inj.mp z))
  · obtain ⟨p, hp, rfl⟩ := List.mem_map.mp hq
    have hp := List.mem_reverse.mp hp
    have b := g.inb _ hp
    have m1 := minI_le (ks := cs.map (·.1)) p.1 (List.mem_map.mpr ⟨p, hp, rfl⟩)
    have m2 := minI_le (ks := cs.map (·.2)) p.2 (List.mem_map.mpr ⟨p, hp, rfl⟩)
    have e1 : (mvd (-(minI (cs.map (·.1))), -(minI (cs.map (·.2)))) p).1 = p.1 - minI (cs.map (·.1)) := rfl
    have e2 : (mvd (-(minI (cs.map (·.1))), -(minI (cs.map (·.2)))) p).2 = p.2 - minI (cs.map (·.2)) := rfl
    unfold inB at b ⊢
    rw [e1, e2]
    simp only [Bool.and_eq_true, decide_eq_true_eq] at b ⊢
    simp only [ex, ey] at bx bY
    omega
  · rw [rim_mvd _ hr, rim_perm (List.reverse_perm cs) hr]
    exact g.rim
  · rw [beg_mvd _ hr, beg_perm (List.reverse_perm cs) hr]
theorem law31_true {Gw Gr : GF} (H : ∀ (cs : List P2) (w : List Nat) (δ : List Int), Gf cs w → ∃ x, Gw [flD (sortP cs) w] δ = some (x, δ) ∧ Gr [x] δ = some (flD (sortP cs) w, δ)) (ns : List Int) (h : ns.length ≤ 63) : ∃ δ', g31 Gw Gr (startL N_31) (dice 0 ns) = some (.rt (.bl true) δ') := by
  have d0 : 2 ≤ (dice 0 ns).length := by simp [dice]
  generalize dice 0 ns = δ0 at d0
  obtain ⟨c0, t, δ1, ec, sh, ob, hle, d1⟩ := cells_eq (most := 20) (by decide) (by decide) d0
  obtain ⟨w, hw⟩ := shp_rim sh t
  have hne : c0.map (mvd t) ≠ [] := by simpa using sh.ne
  have hlen : (c0.map (mvd t)).length ≤ 20 := by rw [List.length_map]; omega
  have g : Gf (c0.map (mvd t)) w := by
    refine ⟨?_, fun p hp => ?_, hne, by omega, hw⟩
    · exact List.pairwise_map.mpr (sh.nd.imp fun {a b} hab z => hab (mvd_inj.mp z))
    · obtain ⟨b1, b2, b3, b4⟩ := ob p hp
      unfold inB
      simp only [Bool.and_eq_true, decide_eq_true_eq]
      omega
  have R0 := g.rm
  have hP : w.length ≤ 62 := by
    have hw0 : rimM c0 = some w := by rw [← rim_mvd t sh.ne]; exact hw
    refine shp_short sh (by rw [List.length_map] at hlen; exact hlen) hw0 R0.l4 ?_
    have := R0.back
    rw [beg_mvd t sh.ne] at this
    have e : ∀ (v : List Nat) (q : P2), endM (mvd t q) v = mvd t (endM q v) := fun v => by
      induction v with
      | nil => exact fun q => rfl
      | cons c v ih =>
        intro q
        show endM (go1 (mvd t q) c) v = mvd t (endM (go1 q c) v)
        rw [go_mvd, ih]
    rw [e] at this
    exact mvd_inj.mp this
  generalize c0.map (mvd t) = cs at ec ob hw hne hlen g R0
  have eb : begM (sortP cs) = begM cs := beg_perm (sortP_perm cs) (fun z => hne (List.length_eq_zero_iff.mp (by rw [← sort_len, z]; rfl)))
  have R := g.sorted.rm
  have lt : ∀ c ∈ w, c < 128 := fun c hc => (R.l4 c hc).lt
  have er : ∀ δ : List Int, G_l_rim [.lst (cs.map pD)] δ = some (.str (S w), δ) := fun δ => (rim_eq hne (by omega)).trans (by rw [hw])
  have ef : ∀ δ : List Int, G_l_begin [.lst (cs.map pD)] δ = some (pD (begM (sortP cs)), δ) := fun δ => (begin_eq hne (by omega)).trans (by rw [eb])
  obtain ⟨a, b, m, δ2, e2, pa, pb, m1, m6, d2⟩ := two_eq d1
  have k : Pr a b m := ⟨pa, pb, m1, m6⟩
  obtain ⟨s8, s9, et⟩ := turns31 (cs := cs) (δ := δ2) R k hP w.length 0 (by omega) .un .un
  have pos : 0 < w.length := List.length_pos_iff.mpr R.pos
  have lp := path_len w (begM (sortP cs))
  have hsp : begM (sortP cs) :: pathM (begM (sortP cs)) w = walkM (begM (sortP cs)) w ++ [begM (sortP cs)] := by rw [path_walk, R.back]
  have hin : begM (sortP cs) ∈ walkM (begM (sortP cs)) w := by
    have := walk_at (begM (sortP cs)) pos
    exact List.mem_of_getElem? this
  have hon : (onceP (begM (sortP cs) :: pathM (begM (sortP cs)) w)).length = w.length := by rw [hsp, once_len R.once hin, walk_len]
  have i0 : dIx (.lst ((begM (sortP cs) :: pathM (begM (sortP cs)) w).map pD)) (.int 0) = some (pD (begM (sortP cs))) := atI_nat' (j := 0) rfl rfl
  have i1 : dIx (.lst ((begM (sortP cs) :: pathM (begM (sortP cs)) w).map pD)) (.int (-1)) = some (pD (begM (sortP cs))) := atI_neg1 (by rw [List.getLast?_map, path_last, R.back]; rfl)
  obtain ⟨gm, bm⟩ := g.moved
  have xne : cs.map (·.1) ≠ [] := by simpa using hne
  have yne : cs.map (·.2) ≠ [] := by simpa using hne
  generalize hax : minI (cs.map (·.1)) = ax at gm bm
  generalize hay : minI (cs.map (·.2)) = ay at gm bm
  have bm2 : begM (sortP (cs.reverse.map (mvd (-ax, -ay)))) = mvd (-ax, -ay) (begM (sortP cs)) := by
    rw [eb, ← bm]
    exact beg_perm (sortP_perm _) (fun z => gm.ne (List.length_eq_zero_iff.mp (by rw [← sort_len, z]; rfl)))
  obtain ⟨c1, c2⟩ := counts_eq R.l4 R.back
  obtain ⟨x, hw1, hr1⟩ := H cs w δ2 g
  have out : ((12, 13) : P2) ∉ walkM (begM (sortP cs)) w := fun z => by
    have := (g.sorted.low _ z).2
    simp at this
  refine ⟨δ2, ?_⟩
  show g31 Gw Gr [.un, .val .dice, .un, .un, .un, .un, .un, .un, .un, .un, .un, .un, .un, .un, .un, .un] δ0 = _
  unfold g31
  apply gSeq_n
  · exact gAsg_s (eCall_s (aCons_s (eVar_s rfl) (aCons_s eC_s aNil_s)) rfl ec) rfl
  apply gSeq_n
  · apply gIf_f
    · apply eOrT_f
      · exact eTest_s (eOp_s (eCall_s (aCons_s (eVar_s rfl) aNil_s) rfl (er _)) eC_s rfl)
      · exact eTest_s (eOp_s (eB_s (aCons_s (eVar_s rfl) aNil_s) (dLen_l (by rw [List.length_map]; omega))) eC_s (dGt_i.trans (by rw [decide_eq_false (by rw [List.length_map]; omega)])))
    · exact gNext_s
  apply gSeq_n
  · exact gPar3_s (aCons_s (eCall_s (aCons_s (eVar_s rfl) aNil_s) rfl (floor_ok g)) (aCons_s (eCall_s (aCons_s (eVar_s rfl) aNil_s) rfl e2) (aCons_s (eCall_s (aCons_s (eVar_s rfl) aNil_s) rfl (er _)) aNil_s)))
  apply gSeq_n
  · apply gIf_f
    · exact eTest_s (eOp_s (eMeth0_s (eVar_s rfl) rfl floor_rim) (eVar_s rfl) ((dNe_S lt lt).trans (by rw [decide_eq_true rfl]; rfl)))
    · exact gNext_s
  apply gSeq_n
  · apply gIf_f
    · exact eTest_s (eOp_s (eMeth0_s (eVar_s rfl) rfl floor_first) (eCall_s (aCons_s (eVar_s rfl) aNil_s) rfl (ef _)) (pr_ne _))
    · exact gNext_s
  apply gSeq_n
  · apply gIf_f
    · exact eTest_s (eOp_s (eMeth0_s (eVar_s rfl) rfl floor_cells) (eB_s (aCons_s (eVar_s rfl) aNil_s) (dSorted_s cs)) (lst_ne _))
    · exact gNext_s
  apply gSeq_n
  · apply gPar_s
    apply aCons_s
    · exact eCall_s (aCons_s (eMeth0_s (eVar_s rfl) rfl floor_first) (aCons_s (eVar_s rfl) aNil_s)) rfl (corners_eq R.l4 (by omega))
    · apply aCons_s
      · apply eTupRg_s (m := m)
        · apply eB_s
          · exact aCons_s (eOp_s (eVar_s rfl) eC_s (show dIx (prD a b) (.int 0) = some (oD a) from rfl)) aNil_s
          · show some (Dat.int ((a.map nD).length : Int)) = some (nD m)
            rw [List.length_map, perm_len pa]
            rfl
        · omega
      · exact aNil_s
  apply gSeq_n
  · apply gIf_f
    · apply eOrT_f
      · exact eTest_s (eOp_s (eOp_s (eVar_s rfl) (eUn_s (z := .int (-1)) eC_s rfl) i1) (eOp_s (eVar_s rfl) eC_s i0) (pr_ne _))
      · apply eTest_s
        apply eOp_s
        · exact eLenSet_s (eVar_s rfl) (by rw [List.length_cons, lp]; omega)
        · exact eB_s (aCons_s (eVar_s rfl) aNil_s) (dLen_S (by omega))
        · rw [hon]
          exact dNe_i.trans (by rw [decide_eq_true rfl]; rfl)
    · exact gNext_s
  apply gSeq_n
  · apply gFor_s
    · apply iR1_s
      · exact aCons_s (eB_s (aCons_s (eVar_s rfl) aNil_s) (dLen_S (by omega))) aNil_s
      · unfold bnd
        rw [decide_eq_true (by omega), decide_eq_true (by omega)]
        rfl
    · have : rangeD 0 (w.length : Int) = (List.range' 0 w.length).map fun (j : Nat) => Dat.int (j : Int) := by
        unfold rangeD
        rw [show ((w.length : Int) - 0).toNat = w.length by omega, List.range_eq_range']
        refine List.map_congr_left fun j _ => ?_
        rw [Int.zero_add]
      rw [this]
      exact et
  apply gSeq_n
  · refine gTryP_s (xs := [flD (sortP cs) w, pD (12, 13)]) (aCons_s (eVar_s rfl) (aCons_s (eTup_s (aCons_s eC_s (aCons_s eC_s aNil_s)) (by simp)) aNil_s)) rfl ?_
    refine ⟨[.val (flD (sortP cs) w), .val (pD (12, 13)), .val (.lst ((walkM (begM (sortP cs)) w).map pD)), .un, .un], δ2, ?_, ?_⟩
    · exact gAsg_s (eCall_s (aCons_s (eVar_s rfl) aNil_s) rfl (rim_corners_ok R.l4 (by omega))) rfl
    · exact eTest_s (eOp_s (eVar_s rfl) (eVar_s rfl) (by rw [dNotIn_pr, decide_eq_true out]))
  have gx : ∀ (δ : List Int) (env : Ev), lcD (tgTup 2 (tgCons (tgName 14) (tgCons (tgName 15) tgNil))) eYes (eVar 14) ([.un, .val .dice, .val (.lst (cs.map pD)), .val (flD (sortP cs) w), .val (prD a b), .val (.str (S w)), .val (.lst ((begM (sortP cs) :: pathM (begM (sortP cs)) w).map pD)), .val (tD (List.range m)), s8, s9, .un, .un, .un, .un, .un, .un] : Ev) (cs.map pD) δ = some ((cs.map (·.1)).map .int, δ) := fun δ env => by
    have := lc_map (gd := tgTup 2 (tgCons (tgName 14) (tgCons (tgName 15) tgNil))) (ft := eYes) (fe := eVar 14) (env := ([.un, .val .dice, .val (.lst (cs.map pD)), .val (flD (sortP cs) w), .val (prD a b), .val (.str (S w)), .val (.lst ((begM (sortP cs) :: pathM (begM (sortP cs)) w).map pD)), .val (tD (List.range m)), s8, s9, .un, .un, .un, .un, .un, .un] : Ev)) (δ := δ) (φ := fun x => match x with | .tup [y, _] => y | _ => .non) (xs := cs.map pD) fun x hx => by
      obtain ⟨p, _, rfl⟩ := List.mem_map.mp hx
      exact ⟨_, rfl, eYes_s, eVar_s rfl⟩
    refine this.trans ?_
    rw [List.map_map, List.map_map]
    rfl
  have gy : ∀ (δ : List Int) (env : Ev), lcD (tgTup 2 (tgCons (tgName 14) (tgCons (tgName 15) tgNil))) eYes (eVar 15) ([.un, .val .dice, .val (.lst (cs.map pD)), .val (flD (sortP cs) w), .val (prD a b), .val (.str (S w)), .val (.lst ((begM (sortP cs) :: pathM (begM (sortP cs)) w).map pD)), .val (tD (List.range m)), s8, s9, .un, .un, .un, .un, .un, .un] : Ev) (cs.map pD) δ = some ((cs.map (·.2)).map .int, δ) := fun δ env => by
    have := lc_map (gd := tgTup 2 (tgCons (tgName 14) (tgCons (tgName 15) tgNil))) (ft := eYes) (fe := eVar 15) (env := ([.un, .val .dice, .val (.lst (cs.map pD)), .val (flD (sortP cs) w), .val (prD a b), .val (.str (S w)), .val (.lst ((begM (sortP cs) :: pathM (begM (sortP cs)) w).map pD)), .val (tD (List.range m)), s8, s9, .un, .un, .un, .un, .un, .un] : Ev)) (δ := δ) (φ := fun x => match x with | .tup [_, y] => y | _ => .non) (xs := cs.map pD) fun x hx => by
      obtain ⟨p, _, rfl⟩ := List.mem_map.mp hx
      exact ⟨_, rfl, eYes_s, eVar_s rfl⟩
    refine this.trans ?_
    rw [List.map_map, List.map_map]
    rfl
  have big : (cs.map pD).length < 1000000 := by rw [List.length_map]; omega
  apply gSeq_n
  · apply gAsg_s (x := .tup [.int ax, .int ay])
    · apply eTup_s
      · apply aCons_s
        · exact eB_s (aCons_s (eF_s (fLc_s (iLst_s (eVar_s rfl)) big rfl (gx _ []))) aNil_s) ((dMin_s xne).trans (by rw [hax]))
        · apply aCons_s
          · exact eB_s (aCons_s (eF_s (fLc_s (iLst_s (eVar_s rfl)) big rfl (gy _ []))) aNil_s) ((dMin_s yne).trans (by rw [hay]))
          · exact aNil_s
      · simp
    · exact rfl
  have gm1 : ∀ (δ : List Int) (env : Ev), lcD (tgTup 2 (tgCons (tgName 14) (tgCons (tgName 15) tgNil))) eYes (eTup (aCons (eOp dSub (eVar 14) (eVar 10)) (aCons (eOp dSub (eVar 15) (eVar 11)) aNil))) ([.un, .val .dice, .val (.lst (cs.map pD)), .val (flD (sortP cs) w), .val (prD a b), .val (.str (S w)), .val (.lst ((begM (sortP cs) :: pathM (begM (sortP cs)) w).map pD)), .val (tD (List.range m)), s8, s9, .val (.int ax), .val (.int ay), .un, .un, .un, .un] : Ev) (cs.map pD).reverse δ = some ((cs.reverse.map (mvd (-ax, -ay))).map pD, δ) := fun δ env => by
    rw [← List.map_reverse]
    have := lc_map (gd := tgTup 2 (tgCons (tgName 14) (tgCons (tgName 15) tgNil))) (ft := eYes) (fe := eTup (aCons (eOp dSub (eVar 14) (eVar 10)) (aCons (eOp dSub (eVar 15) (eVar 11)) aNil))) (env := ([.un, .val .dice, .val (.lst (cs.map pD)), .val (flD (sortP cs) w), .val (prD a b), .val (.str (S w)), .val (.lst ((begM (sortP cs) :: pathM (begM (sortP cs)) w).map pD)), .val (tD (List.range m)), s8, s9, .val (.int ax), .val (.int ay), .un, .un, .un, .un] : Ev)) (δ := δ) (φ := fun x => match x with | .tup [.int i, .int j] => pD (mvd (-ax, -ay) (i, j)) | _ => .non) (xs := cs.reverse.map pD) fun x hx => by
      obtain ⟨p, _, rfl⟩ := List.mem_map.mp hx
      exact ⟨_, rfl, eYes_s, eTup_s (aCons_s (eOp_s (eVar_s rfl) (eVar_s rfl) dSub_i) (aCons_s (eOp_s (eVar_s rfl) (eVar_s rfl) dSub_i) aNil_s)) (by simp)⟩
    refine this.trans ?_
    rw [List.map_map, List.map_map]
    rfl
  apply gSeq_n
  · exact gAsg_s (eCall_s (aCons_s (eF_s (fLc_s (iLst_s (eRevL_s (eVar_s rfl))) (by rw [List.length_reverse]; exact big) rfl (gm1 _ []))) aNil_s) rfl (floor_ok gm)) rfl
  apply gSeq_n
  · apply gIf_f
    · exact eTest_s (eOp_s (eMeth0_s (eVar_s rfl) rfl floor_rim) (eVar_s rfl) ((dNe_S lt lt).trans (by rw [decide_eq_true rfl]; rfl)))
    · exact gNext_s
  apply gSeq_n
  · apply gIf_f
    · apply eTest_s
      apply eOp_s (y := pD (mvd (-ax, -ay) (begM (sortP cs))))
      · exact eMeth0_s (eVar_s rfl) rfl floor_first
      · exact eTup_s (aCons_s (eOp_s (eOp_s (eOp_s (eVar_s rfl) eC_s i0) eC_s (dIx_p0 _)) (eVar_s rfl) dSub_i) (aCons_s (eOp_s (eOp_s (eOp_s (eVar_s rfl) eC_s i0) eC_s (dIx_p1 _)) (eVar_s rfl) dSub_i) aNil_s)) (by simp)
      · rw [bm2]
        exact pr_ne _
    · exact gNext_s
  apply gSeq_n
  · exact gAsg_s (eDisp_s (aCons_s (eOp_s (eVar_s rfl) eC_s (by rw [e_S]; exact count_S w 101)) (aCons_s (eOp_s (eVar_s rfl) eC_s (by rw [n_S]; exact count_S w 110)) aNil_s))) rfl
  apply gRet_s
  apply eAnd_t
  · apply eOp_s
    · exact eOp_s (eVar_s rfl) eC_s (by rw [w_S]; exact count_S w 119)
    · exact eOp_s (z := .int (w.count 101 : Nat)) (eVar_s rfl) eC_s (by rw [e_S, n_S]; show getK [.inr (S [101]), .inr (S [110])] _ (.inr (S [101])) = _; simp [getK, S_inj])
    · exact dEq_i.trans (by rw [c1, decide_eq_true rfl])
  apply eAnd_t
  · apply eOp_s
    · exact eOp_s (eVar_s rfl) eC_s (by rw [s_S]; exact count_S w 115)
    · exact eOp_s (z := .int (w.count 110 : Nat)) (eVar_s rfl) eC_s (by rw [e_S, n_S]; show getK [.inr (S [101]), .inr (S [110])] _ (.inr (S [110])) = _; simp [getK, S_inj])
    · exact dEq_i.trans (by rw [c2, decide_eq_true rfl])
  apply eOp_s
  · exact eMeth0_s (eCall_s (aCons_s (eCall_s (aCons_s (eVar_s rfl) aNil_s) rfl hw1) aNil_s) rfl hr1) rfl floor_cells
  · exact eB_s (aCons_s (eVar_s rfl) aNil_s) (dSorted_s cs)
  · exact lst_eq _
end Cm

/-! What the defs of notes are worth, by data (printed by a tool of mine). -/
namespace Cm
open PySem PySem.Spec L2 Dl
abbrev N_p_Floor_has : List Str := ["self", "x", "y"]
def g_p_Floor_has : Sg :=
    (gRet (eDin false (eTup (aCons (eVar 1) (aCons (eVar 2) aNil))) (eFld "Floor" "_cells" (eVar 0))))
def G_p_Floor_has : GF := runG N_p_Floor_has g_p_Floor_has
abbrev N_p_drawn_row : List Str := ["floor", "y", "wide", "x"]
def g_p_drawn_row : Sg :=
    (gRet (eOp dJoin (eC (.str "")) (eF (fLc (iR1 (aCons (eVar 2) aNil)) (tgName 3) eYes (eIf (eTru (eMeth "Floor" "has" (["self", "x", "y"] : List Str).length G_p_Floor_has (eVar 0) (aCons (eVar 3) (aCons (eVar 1) aNil)))) (eC (.str "#")) (eC (.str "."))) [3]))))
def G_p_drawn_row : GF := runG N_p_drawn_row g_p_drawn_row
abbrev N_p_written : List Str := ["floor", "wide", "high", "x", "y"]
def g_p_written : Sg :=
    (gSeq (gAsg (tgName 1) (eOp dAdd (eB dMax (aCons (eF (fLc (iLst (eMeth "Floor" "cells" (["self"] : List Str).length G_p_Floor_cells (eVar 0) aNil)) (tgTup 2 (tgCons (tgName 3) (tgCons (tgName 4) tgNil))) eYes (eVar 3) [3, 4])) aNil)) (eC (.int 1))))
    (gSeq (gAsg (tgName 2) (eOp dAdd (eB dMax (aCons (eF (fLc (iLst (eMeth "Floor" "cells" (["self"] : List Str).length G_p_Floor_cells (eVar 0) aNil)) (tgTup 2 (tgCons (tgName 3) (tgCons (tgName 4) tgNil))) eYes (eVar 4) [3, 4])) aNil)) (eC (.int 1))))
    (gRet (eOp dJoin (eC (.str "\n")) (eF (fLc (iR3 (aCons (eOp dSub (eVar 2) (eC (.int 1))) (aCons (eUn dNeg (eC (.int 1))) (aCons (eUn dNeg (eC (.int 1))) aNil)))) (tgName 4) eYes (eCall G_p_drawn_row (["floor", "y", "wide"] : List Str).length (aCons (eVar 0) (aCons (eVar 4) (aCons (eVar 1) aNil)))) [4]))))))
def G_p_written : GF := runG N_p_written g_p_written
abbrev N_p_is_row : List Str := ["row", "many", "sign"]
def g_p_is_row : Sg :=
    (gRet (eAnd (eOp dEq (eB dLen (aCons (eVar 0) aNil)) (eVar 1)) (eAnd (eChain dLe dLe (eC (.int 1)) (eVar 1) (eC (.int 12))) (eB dAll (aCons (eF (fLc (iStrD (eVar 0)) (tgName 2) eYes (eOp dIn (eVar 2) (eTup (aCons (eC (.str "#")) (aCons (eC (.str ".")) aNil)))) [2])) aNil)))))
def G_p_is_row : GF := runG N_p_is_row g_p_is_row
abbrev N_p_read : List Str := ["text", "rows", "at", "row", "y", "x", "sign"]
def b_p_read_1 : Sg := (gIf (eOrT (eTest (eOp dEq (eVar 2) (eC (.int 12)))) (eNotT (eTru (eCall G_p_is_row (["row", "many"] : List Str).length (aCons (eVar 3) (aCons (eB dLen (aCons (eOp dIx (eVar 1) (eC (.int 0))) aNil)) aNil)))))) gNever gNext)
def g_p_read : Sg :=
    (gSeq (gAsg (tgName 1) (eOp dSplit (eVar 0) (eC (.str "\n"))))
    (gSeq (gFor (iEn (eVar 1)) (tgTup 2 (tgCons (tgName 2) (tgCons (tgName 3) tgNil))) b_p_read_1)
    (gRet (eCall G_p_Floor_init ((["self", "cells"] : List Str).length - 1) (aCons (eF (fLc2 (iEn (eRevL (eVar 1))) (tgTup 2 (tgCons (tgName 4) (tgCons (tgName 3) tgNil))) eYes (iEnS (eVar 3)) (tgTup 2 (tgCons (tgName 5) (tgCons (tgName 6) tgNil))) (eTest (eOp dEq (eVar 6) (eC (.str "#")))) (eTup (aCons (eVar 5) (aCons (eVar 4) aNil))) [4, 3, 5, 6] [5, 6])) aNil)))))
def G_p_read : GF := runG N_p_read g_p_read
end Cm

/-! Steps of the machine for pairs, floors, dicts of cells. -/
namespace Cm
open PySem PySem.Spec L2 Dl
section
variable {env : Ev} {δ δ1 : List Int} {f g : Dl.E} {fr : EA} {gs : GTs} {G : GF} {ss cs : List P2} {w : List Nat} {xs : List Dat} {q p : P2} {neg : Bool} {n : Nat}
theorem tup2 {a b : Int} : Dat.tup [.int a, .int b] = pD (a, b) := nrfl rfl
theorem r_tgP : tgTup 2 gs (pD p) env = gs [.int p.1, .int p.2] env := nrfl rfl
theorem dEq_pr (p q : P2) : dEq (pD p) (pD q) = some (.bl (decide (p = q))) := by
  unfold dEq
  rw [eqD_pr]
  rfl
def kDin2 (neg : Bool) (k : Option (List Key)) (o : Option (Dat × List Int)) : Option (Dat × List Int) := o.bind fun u => (dctD u.1).bind fun z => k.map fun k => (.bl (cond neg (!(getA z.1 z.2 k).isSome) (getA z.1 z.2 k).isSome), u.2)
def kDin (neg : Bool) (g : Dl.E) (env : Ev) (o : Option (Dat × List Int)) : Option (Dat × List Int) := o.bind fun r => kDin2 neg (keyD r.1) (g env r.2)
theorem r_Din : eDin neg f g env δ = kDin neg g env (f env δ) := nrfl rfl
theorem r_kDin : kDin neg g env (some (pD q, δ)) = kDin2 neg (some (kp q)) (g env δ) := by
  show kDin2 neg (keyD (pD q)) (g env δ) = _
  rw [keyD_p]
theorem r_kDin2 (h : cs.length = xs.length) : kDin2 neg (some (kp q)) (some (.dT (cs.map kp) xs, δ)) = some (.bl (cond neg (!decide (q ∈ cs)) (decide (q ∈ cs))), δ) := by
  show some (Dat.bl (cond neg (!(getA (cs.map kp) xs (kp q)).isSome) (getA (cs.map kp) xs (kp q)).isSome), δ) = _
  rw [getA_some h]
theorem r_kDinT : kDin2 neg (some (kp q)) (some (.dT (ss.map kp) (trues ss), δ)) = some (.bl (cond neg (!decide (q ∈ ss)) (decide (q ∈ ss))), δ) := r_kDin2 (by unfold trues; simp)
def kFld (c fld : Str) (o : Option (Dat × List Int)) : Option (Dat × List Int) := o.bind fun r => match r.1 with
  | .obj c' ks xs => if c' = c then ((ks.zip xs).lookup fld).map fun x => (x, r.2) else none
  | _ => none
theorem r_Fld {c fld : Str} : eFld c fld f env δ = kFld c fld (f env δ) := nrfl rfl
theorem r_fCells : kFld "Floor" "_cells" (some (flD ss w, δ)) = some (.dT (ss.map kp) (trues ss), δ) := nrfl rfl
theorem r_fFirst : kFld "Floor" "_first" (some (flD ss w, δ)) = some (pD (begM ss), δ) := nrfl rfl
theorem r_fRim : kFld "Floor" "_rim" (some (flD ss w, δ)) = some (.str (S w), δ) := nrfl rfl
theorem r_mRim : kMeth "Floor" "rim" n G fr env (some (flD ss w, δ)) = kMeth2 n G (flD ss w) (fr env δ) := nrfl rfl
theorem r_mFirst : kMeth "Floor" "first" n G fr env (some (flD ss w, δ)) = kMeth2 n G (flD ss w) (fr env δ) := nrfl rfl
theorem r_mCells : kMeth "Floor" "cells" n G fr env (some (flD ss w, δ)) = kMeth2 n G (flD ss w) (fr env δ) := nrfl rfl
theorem r_mHas : kMeth "Floor" "has" n G fr env (some (flD ss w, δ)) = kMeth2 n G (flD ss w) (fr env δ) := nrfl rfl
theorem r_condf {a b : Bool} : cond false a b = b := nrfl rfl
theorem r_condt {a b : Bool} : cond true a b = a := nrfl rfl
/-- a list's comprehension, each item by itself -/
theorem lc_mapf {α : Type} {gd : GT} {ft : ET} {fe : Dl.E} {ι : α → Dat} {φ : α → Dat} : ∀ {l : List α}, (∀ a ∈ l, ∃ e1, gd (ι a) env = some e1 ∧ ft e1 δ = some (true, δ) ∧ fe e1 δ = some (φ a, δ)) → lcD gd ft fe env (l.map ι) δ = some (l.map φ, δ)
  | [], _ => rfl
  | a :: l, h => by
    obtain ⟨e1, h1, h2, h3⟩ := h a List.mem_cons_self
    exact lc_t h1 h2 h3 (lc_mapf fun y hy => h y (List.mem_cons_of_mem _ hy))
theorem lc_filf {α : Type} {gd : GT} {ft : ET} {fe : Dl.E} {ι : α → Dat} {φ : α → Dat} {p : α → Bool} : ∀ {l : List α}, (∀ a ∈ l, ∃ e1, gd (ι a) env = some e1 ∧ ft e1 δ = some (p a, δ) ∧ (p a = true → fe e1 δ = some (φ a, δ))) → lcD gd ft fe env (l.map ι) δ = some ((l.filter p).map φ, δ)
  | [], _ => rfl
  | a :: l, h => by
    obtain ⟨e1, h1, h2, h3⟩ := h a List.mem_cons_self
    have ih := lc_filf (p := p) fun y hy => h y (List.mem_cons_of_mem _ hy)
    cases hp : p a with
    | true =>
      rw [hp] at h2
      rw [List.filter_cons_of_pos hp]
      exact lc_t h1 h2 (h3 hp) ih
    | false =>
      rw [hp] at h2
      rw [List.filter_cons_of_neg (by simp [hp])]
      exact lc_f h1 h2 ih
/-- two clauses -/
theorem lc2_mapf {α : Type} {gd gd1 : GT} {ft ft1 : ET} {fi1 : EA} {fe : Dl.E} {vs1 : List Nat} {ι : α → Dat} {φ : α → List Dat} : ∀ {l : List α}, (∀ a ∈ l, ∃ e1 ys, gd (ι a) env = some e1 ∧ ft e1 δ = some (true, δ) ∧ fi1 e1 δ = some (ys, δ) ∧ ys.length ≤ 1000 ∧ noOwn e1 vs1 = true ∧ lcD gd1 ft1 fe (wipeE e1 vs1) ys δ = some (φ a, δ)) → lc2D gd ft fi1 gd1 ft1 fe vs1 env (l.map ι) δ = some ((l.map φ).flatten, δ)
  | [], _ => rfl
  | a :: l, h => by
    obtain ⟨e1, ys, h1, h2, h3, h4, h5, h6⟩ := h a List.mem_cons_self
    have ih := lc2_mapf (l := l) fun y hy => h y (List.mem_cons_of_mem _ hy)
    show ((gd (ι a) env).bind fun e1 => _) = _
    rw [h1]
    simp only [Option.bind_some, h2, if_true, h3, h4, h5, decide_true, Bool.and_self, h6, ih, Option.map_some, List.map_cons, List.flatten_cons]
/-- a loop's turns, one by one, by a state -/
theorem forD_st {α β : Type} {gd : GT} {b : Sg} {ι : α → Dat} {Ev' : β → Ev → Prop} {step : β → α → β} : ∀ {l : List α} {s : β} {env : Ev}, (∀ a ∈ l, ∀ s e, Ev' s e → ∃ e1 e2, gd (ι a) e = some e1 ∧ b e1 δ = some (.nx e2 δ) ∧ Ev' (step s a) e2) → Ev' s env → ∃ env', forD gd b (l.map ι) env δ = some (.nx env' δ) ∧ Ev' (l.foldl step s) env'
  | [], s, env, _, h0 => ⟨env, rfl, h0⟩
  | a :: l, s, env, h, h0 => by
    obtain ⟨e1, e2, h1, h2, h3⟩ := h a List.mem_cons_self s env h0
    obtain ⟨env', h4, h5⟩ := forD_st (l := l) (fun y hy => h y (List.mem_cons_of_mem _ hy)) h3
    exact ⟨env', forD_n h1 h2 h4, h5⟩
/-- .. where nothing but the turn's own names changes -/
theorem forD_in {α : Type} {gd : GT} {b : Sg} {ι : α → Dat} {P : Ev → Prop} {l : List α} {env : Ev} (h : ∀ a ∈ l, ∀ e, P e → ∃ e1 e2, gd (ι a) e = some e1 ∧ b e1 δ = some (.nx e2 δ) ∧ P e2) (h0 : P env) : ∃ env', forD gd b (l.map ι) env δ = some (.nx env' δ) ∧ P env' :=
  let ⟨env', h1, h2⟩ := forD_st (β := Unit) (Ev' := fun _ e => P e) (step := fun _ _ => ()) (s := ()) (fun a ha _ e he => h a ha e he) h0
  ⟨env', h1, h2⟩
theorem enum_zip {α : Type} {ι : α → Dat} {l : List α} : enumD (l.map ι) = l.zipIdx.map fun a => .tup [.int (a.2 : Nat), ι a.1] := by
  refine List.ext_getElem? fun i => ?_
  rw [enumD_get, List.getElem?_map, List.getElem?_map, List.getElem?_zipIdx, Option.map_map, Option.map_map]
  cases l[i]? with
  | none => rfl
  | some a => simp
theorem toS_let {α : Type} (c : α → Nat) : ∀ l : List α, toS (l.map fun a => ltrD (c a)) = some (l.map fun a => S [c a])
  | [] => rfl
  | a :: l => by
    show (toS (l.map fun a => ltrD (c a))).map _ = _
    rw [toS_let c l]
    rfl
theorem dJoin_let {α : Type} {c : α → Nat} {l : List α} (h : l.length < 1000000) : dJoin (.str (S [])) (.lst (l.map fun a => ltrD (c a))) = some (.str (S (l.map c))) := by
  have e : (l.map fun a => ltrD (c a)) = (l.map fun a => [c a]).map fun w => Dat.str (S w) := by rw [List.map_map]; rfl
  have f : ∀ l : List α, (l.map fun a => [c a]).flatten = l.map c := fun l => by
    induction l with
    | nil => rfl
    | cons a l ih => simp [ih]
  rw [e, dJoin_S (by rw [f, List.length_map]; exact h), f]
theorem joinL_len (s : List Nat) : ∀ ws : List (List Nat), (TL.joinL s ws).length ≤ ws.flatten.length + ws.length * s.length
  | [] => by simp [TL.joinL]
  | [p] => by simp [TL.joinL]
  | p :: q :: r => by
    have := joinL_len s (q :: r)
    simp only [TL.joinL, List.length_append, List.flatten_cons, List.length_cons] at this ⊢
    rw [Nat.add_mul (r.length + 1) 1]
    omega
theorem dJoin_sep {s : List Nat} {ws : List (List Nat)} (h : ws.flatten.length + ws.length * s.length < 1000000) : dJoin (.str (S s)) (.lst (ws.map fun w => .str (S w))) = some (.str (S (TL.joinL s ws))) := by
  show ((toS (ws.map fun w => Dat.str (S w))).bind fun zs => if (zs.map (·.length)).sum + zs.length * (S s).length < 1000000 then some (Dat.str (Txt.join (S s) zs)) else none) = _
  rw [toS_map]
  simp only [Option.bind_some]
  rw [sum_le_flat, S_len, List.length_map, if_pos h]
  congr 2
  refine TL.ext_tl ?_
  rw [TL.join_eq, TL.tl_join]
  have : (ws.map S).map TL.tl = ws := by
    rw [List.map_map]
    have : (TL.tl ∘ S) = id := rfl
    rw [this, List.map_id]
  rw [this]
  rfl
theorem dSplit_join {s : Nat} {ws : List (List Nat)} (hne : ws ≠ []) (hs : s < 256) (hp : ∀ p ∈ ws, s ∉ p) (h : (TL.joinL [s] ws).length < 999000) : dSplit (.str (S (TL.joinL [s] ws))) (.str (S [s])) = some (.lst (ws.map fun w => .str (S w))) := by
  show (if (((S [s]).length == 0) = false ∧ (S (TL.joinL [s] ws)).length + 2 < 1000000) then some (Dat.lst ((Txt.split (S (TL.joinL [s] ws)) (S [s])).map .str)) else none) = _
  rw [if_pos ⟨rfl, by rw [S_len]; omega⟩]
  have e : S (TL.joinL [s] ws) = Txt.join (S [s]) (ws.map S) := by
    refine TL.ext_tl ?_
    rw [TL.join_eq, TL.tl_join]
    have : (ws.map S).map TL.tl = ws := by
      rw [List.map_map]
      have : (TL.tl ∘ S) = id := rfl
      rw [this, List.map_id]
    rw [this]
    rfl
  rw [e, TL.split_join (s := s) (S := []) rfl (by
    unfold S
    rw [Array.all_eq_true]
    intro i hi
    simp at hi
    subst hi
    simpa using hs) (by simpa using hne) (fun p h => by
    obtain ⟨z, hz, rfl⟩ := List.mem_map.mp h
    exact hp z hz), List.map_map]
  rfl
def natD (i : Nat) : Dat := .int (i : Nat)
theorem range_nat {k : Nat} : rangeD 0 (k : Int) = (List.range k).map natD := by
  unfold rangeD
  rw [show ((k : Int) - 0).toNat = k by omega]
  refine List.map_congr_left fun j _ => ?_
  rw [Int.zero_add]
  rfl
theorem nil_S : (Str.ofString "") = S [] := by rfl
theorem hash_S : (Str.ofString "#") = S [35] := by rfl
theorem dot_S : (Str.ofString ".") = S [46] := by rfl
theorem nl_S : (Str.ofString "\n") = S [10] := by rfl
end
end Cm

local macro_rules | `(tactic| and_intros) => `(tactic| simp only [Dl.r_kR, Dl.r_var, Dl.r_kVar, Dl.r_varB, Dl.r_kVarB, Dl.r_kVarB2, Dl.r_kVarB3, Dl.r_C, Dl.r_Op, Dl.r_kOp, Dl.r_kOp3, Dl.r_Un, Dl.r_kUn, Dl.r_Test, Dl.r_kTest, Dl.r_AndT, Dl.r_kAndT, Dl.r_kAndT2t, Dl.r_kAndT2f, Dl.r_OrT, Dl.r_kOrT, Dl.r_kOrT2t, Dl.r_kOrT2f, Dl.r_NotT, Dl.r_kNotT, Dl.r_And, Dl.r_kAnd, Dl.r_kAnd2t, Dl.r_kAnd2f, Dl.r_Or, Dl.r_kOr, Dl.r_kOr2t, Dl.r_kOr2f, Dl.r_Not, Dl.r_kNot, Dl.r_Tru, Dl.r_kTru, Dl.r_kTru2, Dl.r_truB, Dl.r_truI, Dl.r_truL, Dl.r_truN, Dl.r_IfE, Dl.r_kIfE, Dl.r_kIfEt, Dl.r_kIfEf, Dl.r_nil, Dl.r_cons, Dl.r_kCons, Dl.r_kCons2, Dl.r_Tup, Dl.r_kTup0, Dl.r_kTup1, Dl.r_kTup2, Dl.r_kTup3, Dl.r_kTup4, Dl.r_kTup5, Dl.r_kTup6, Dl.r_kTup7, Dl.r_kTup8, Dl.r_kTup9, Dl.r_Lst, Dl.r_kLst0, Dl.r_kLst1, Dl.r_kLst2, Dl.r_kLst3, Dl.r_kLst4, Dl.r_kLst5, Dl.r_kLst6, Dl.r_kLst7, Dl.r_kLst8, Dl.r_kLst9, Dl.r_FL, Dl.r_kFL0, Dl.r_kFL1, Dl.r_kFL2, Dl.r_kFL3, Dl.r_kFL4, Dl.r_kFL5, Dl.r_kFL6, Dl.r_kFL7, Dl.r_kFL8, Dl.r_kFL9, Dl.r_B, Dl.r_kB, Dl.r_Call, Dl.r_kCall0, Dl.r_kCallI0, Dl.r_kCall1, Dl.r_kCallI1, Dl.r_kCall2, Dl.r_kCallI2, Dl.r_kCall3, Dl.r_kCallI3, Dl.r_kCall4, Dl.r_kCallI4, Dl.r_kCall5, Dl.r_kCallI5, Dl.r_kCall6, Dl.r_kCallI6, Dl.r_oN, Dl.r_oS, Dl.r_kO, Dl.r_Sl, Dl.r_kSl, Dl.r_kSl2, Dl.r_kSl3, Dl.r_Kd, Dl.r_kKd, Dl.r_Ch, Dl.r_kCh, Dl.r_kCh2, Dl.r_kCh3t, Dl.r_kCh3f, Dl.r_kCh4, Dl.r_F, Dl.r_kF, Dl.r_run, Dl.r_kRun, Dl.r_kRun2, Dl.r_tgN, Dl.r_tgC, Dl.r_kTg, Dl.r_tg0, Dl.r_tgtup1, Dl.r_tgctup1, Dl.r_tgtup2, Dl.r_tgctup2, Dl.r_tgtup3, Dl.r_tgctup3, Dl.r_tgtup4, Dl.r_tgctup4, Dl.r_tgtup5, Dl.r_tgctup5, Dl.r_Asg, Dl.r_kAsg, Dl.r_kAsg2, Dl.r_Seq, Dl.r_kSeq, Dl.r_kSeqR, Dl.r_kSeqB, Dl.r_kSeqC, Dl.r_next, Dl.r_break, Dl.r_cont, Dl.r_Ret, Dl.r_kRet, Dl.r_RetN, Dl.r_RO, Dl.r_kRo, Dl.r_RC, Dl.r_kRc, Dl.r_kRcL, Dl.r_If, Dl.r_kIf, Dl.r_kIft, Dl.r_kIff, Dl.r_Own, Dl.r_kOwn, Dl.r_App, Dl.r_kApp, Dl.r_kApp2, Dl.r_Pop, Dl.r_kPop, Dl.r_Frz, Dl.r_kFrz, Dl.r_FrzT, Dl.r_kFrzT, Dl.r_For, Dl.r_kFor, Dl.r_for0, Dl.r_forS, Dl.r_kForS, Dl.r_kForN, Dl.r_kForC, Dl.r_kForB, Dl.r_kForR, Dl.r_iL, Dl.r_kLstW, Dl.r_iT, Dl.r_kTupW, Dl.r_kTupW2, Dl.r_iS, Dl.r_kStrW, Dl.r_iR1, Dl.r_kR1, Dl.r_iR2, Dl.r_kR2, Dl.r_iR3, Dl.r_kR3, Dl.r_iEn, Dl.r_kEn, Dl.r_iEnS, Dl.r_kEnS, Dl.r_nOw0, Dl.r_nOw, Dl.r_nOwV, Dl.r_nOwU, Dl.r_nOwN, Dl.r_wipe0, Dl.r_wipeS, Dl.r_Lc, Dl.r_kLc, Dl.r_Lc2, Dl.r_kLc2, Dl.r_yes, Dl.r_lc0, Dl.r_Par, Dl.r_kPar, Dl.r_Par3, Dl.r_kPar3, Dl.r_Drop, Dl.r_kDrop, Dl.r_RevL, Dl.r_kRevL, Dl.r_TupOf, Dl.r_kTupOf, Dl.r_TupRg, Dl.r_kTupRg, Dl.r_LstRg, Dl.r_kLstRg, Dl.r_Disp, Dl.r_kDisp, Dl.r_List, Dl.r_kList, Dl.r_Meth, Dl.r_kMeth0, Dl.r_kMeth1, Dl.r_kMeth2, Dl.r_kMeth3, Dl.dAdd_i, Dl.dSub_i, Dl.dLt_i, Dl.dLe_i, Dl.dGt_i, Dl.dGe_i, Dl.dEq_i, Dl.dNe_i, Dl.r_neg, List.getElem?_cons_zero, List.getElem?_cons_succ, List.set_cons_zero, List.set_cons_succ, List.getElem?_nil, Bool.and_true, Bool.true_and, Bool.and_false, Bool.false_and, Bool.not_true, Bool.not_false, decide_true, decide_false, ↓reduceIte, Bool.false_eq_true, if_true, if_false, List.length_map, Bool.and_self, not_true_eq_false, not_false_eq_true, Bool.or_true, Bool.or_false, Bool.true_or, Bool.false_or, and_false, false_and, and_true, true_and, Cm.tup2, Cm.r_tgP, Cm.dEq_pr, Cm.r_Din, Cm.r_kDin, Cm.r_kDinT, Cm.r_Fld, Cm.r_fCells, Cm.r_fFirst, Cm.r_fRim, Cm.r_mRim, Cm.r_mFirst, Cm.r_mCells, Cm.r_mHas, Cm.r_condf, Cm.r_condt, Cm.dIx_p0, Cm.dIx_p1, Cm.dNe_pr, Cm.dIn_pr, Cm.dNotIn_pr, Cm.floor_rim, Cm.floor_first, Cm.floor_cells, Cm.range_nat, Cm.nil_S, Cm.hash_S, Cm.dot_S, Cm.nl_S, Cm.e_S, Cm.n_S, Cm.w_S, Cm.s_S, List.length_range, *])
/-! What is written of a floor, and read. -/
namespace Cm
open PySem PySem.Spec L2 Dl
section
variable {ss cs : List P2} {w : List Nat} {δ : List Int} {x y : Int}
theorem floor_has : G_p_Floor_has [flD ss w, .int x, .int y] δ = some (.bl (decide ((x, y) ∈ ss)), δ) := by
  unfold G_p_Floor_has
  rw [r_run]
  show kRun (g_p_Floor_has [.val (flD ss w), .val (.int x), .val (.int y)] δ) = _
  unfold g_p_Floor_has
  and_intros
def rowM (ss : List P2) (n : Nat) (y : Int) : List Nat := (List.range n).map fun (i : Nat) => if ((i : Int), y) ∈ ss then 35 else 46
theorem row_eq {n : Nat} (hn : n ≤ 1000) : G_p_drawn_row [flD ss w, .int y, .int (n : Nat)] δ = some (.str (S (rowM ss n y)), δ) := by
  unfold G_p_drawn_row
  rw [r_run]
  show kRun (g_p_drawn_row [.val (flD ss w), .val (.int y), .val (.int n), .un] δ) = _
  unfold g_p_drawn_row
  have hb : bnd (n : Int) = true := by unfold bnd; simp; omega
  have hl : n < 1000000 := by omega
  have h0 := @floor_has
  and_intros
  rw [lc_mapf (φ := fun (i : Nat) => ltrD (if ((i : Int), y) ∈ ss then 35 else 46)) fun i hi => ⟨_, rfl, rfl, by
    by_cases h : ((i : Int), y) ∈ ss
    · unfold natD; and_intros
    · unfold natD; and_intros⟩]
  have hj := dJoin_let (c := fun (i : Nat) => if ((i : Int), y) ∈ ss then 35 else 46) (l := List.range n) (by simpa using hl)
  and_intros
  rfl
def rowsM (ss : List P2) (m n : Nat) : List (List Nat) := (List.range m).map fun (i : Nat) => rowM ss n ((m : Int) - 1 - (i : Nat))
theorem rowM_len {n : Nat} : (rowM ss n y).length = n := by unfold rowM; simp
theorem rowsM_len {m n : Nat} : (rowsM ss m n).length = m := by unfold rowsM; simp
theorem rowsM_flat {m n : Nat} : (rowsM ss m n).flatten.length = m * n := by
  unfold rowsM
  generalize (m : Int) - 1 = k
  induction m with
  | zero => simp
  | succ m ih =>
    rw [List.range_succ, List.map_append, List.flatten_append, List.length_append, ih]
    simp [rowM_len, Nat.add_mul]
theorem rgOk_down {i j : Int} (ha : -(2 ^ 62) ≤ i) (ha' : i < 2 ^ 62) (hb : -(2 ^ 62) ≤ j) (hb' : j < 2 ^ 62) : rgOk i j (-1) = true ∧ rangeC i j (-1) = (List.range (i - j).toNat).map fun (k : Nat) => .int (i - (k : Nat)) := by
  obtain ⟨h1, h2, h3, h4⟩ := RgC.neg ha ha' hb hb'
  constructor
  · unfold rgOk
    rw [h3, h4]
    simp
    omega
  · unfold rangeC
    rw [h4, Int.toNat_natCast]
    refine List.map_congr_left fun k _ => ?_
    congr 1
    omega
/-- the text of a floor whose greatest x, y are told -/
theorem written_eq {mx my : Nat} (hx : maxI (ss.map (·.1)) = (mx : Int)) (hy : maxI (ss.map (·.2)) = (my : Int)) (hne : ss ≠ []) (hl : ss.length < 1000) (h1 : mx < 100) (h2 : my < 100) :
    G_p_written [flD ss w] δ = some (.str (S (TL.joinL [10] (rowsM ss (my + 1) (mx + 1)))), δ) := by
  unfold G_p_written
  rw [r_run]
  show kRun (g_p_written [.val (flD ss w), .un, .un, .un, .un] δ) = _
  unfold g_p_written
  have hl' : ss.length < 1000000 := by omega
  and_intros
  rw [lc_mapf (φ := fun (p : P2) => .int p.1) fun p hp => ⟨_, rfl, rfl, rfl⟩]
  have e1 : (ss.map fun (p : P2) => Dat.int p.1) = (ss.map (·.1)).map Dat.int := by rw [List.map_map]; rfl
  have e2 : (ss.map fun (p : P2) => Dat.int p.2) = (ss.map (·.2)).map Dat.int := by rw [List.map_map]; rfl
  rw [e1]
  have m1 := dMax_s (ks := ss.map (·.1)) (by simpa using hne)
  have m2 := dMax_s (ks := ss.map (·.2)) (by simpa using hne)
  and_intros
  rw [lc_mapf (φ := fun (p : P2) => .int p.2) fun p hp => ⟨_, rfl, rfl, rfl⟩, e2]
  have c1 : (mx : Int) + 1 = ((mx + 1 : Nat) : Int) := by omega
  have c2 : (my : Int) + 1 = ((my + 1 : Nat) : Int) := by omega
  rw [c1]
  have hk : (my : Int) ≤ 2 ^ 61 := by omega
  obtain ⟨g1, g2⟩ := rgOk_down (i := ((my + 1 : Nat) : Int) - 1) (j := -1) (by omega) (by omega) (by omega) (by omega)
  have c3 : (((my + 1 : Nat) : Int) - 1 - -1).toNat = my + 1 := by omega
  have hl2 : my + 1 < 1000000 := by omega
  have c4 : List.length (List.map (fun (k : Nat) => Dat.int (((my + 1 : Nat) : Int) - 1 - (k : Nat))) (List.range (my + 1))) < 1000000 := by simpa using hl2
  rw [c3] at g2
  and_intros
  rw [lc_mapf (φ := fun (i : Nat) => .str (S (rowM ss (mx + 1) (((my + 1 : Nat) : Int) - 1 - (i : Nat))))) fun i hi => ⟨_, rfl, rfl, by
    have h0 := row_eq (ss := ss) (w := w) (δ := δ) (y := ((my + 1 : Nat) : Int) - 1 - (i : Nat)) (n := mx + 1) (by omega)
    and_intros⟩]
  have e3 : ((List.range (my + 1)).map fun (i : Nat) => Dat.str (S (rowM ss (mx + 1) (((my + 1 : Nat) : Int) - 1 - (i : Nat))))) = (rowsM ss (my + 1) (mx + 1)).map fun w => .str (S w) := by
    unfold rowsM
    rw [List.map_map]
    rfl
  have hj := dJoin_sep (s := [10]) (ws := rowsM ss (my + 1) (mx + 1)) (by
    rw [rowsM_flat, rowsM_len]
    have : (my + 1) * (mx + 1) ≤ 100 * 100 := Nat.mul_le_mul (by omega) (by omega)
    simp
    omega)
  rw [e3]
  clear e1 e2 c1 c2 c3 e3
  and_intros
end
end Cm

local macro_rules | `(tactic| and_intros) => `(tactic| simp only [Dl.r_kR, Dl.r_var, Dl.r_kVar, Dl.r_varB, Dl.r_kVarB, Dl.r_kVarB2, Dl.r_kVarB3, Dl.r_C, Dl.r_Op, Dl.r_kOp, Dl.r_kOp3, Dl.r_Un, Dl.r_kUn, Dl.r_Test, Dl.r_kTest, Dl.r_AndT, Dl.r_kAndT, Dl.r_kAndT2t, Dl.r_kAndT2f, Dl.r_OrT, Dl.r_kOrT, Dl.r_kOrT2t, Dl.r_kOrT2f, Dl.r_NotT, Dl.r_kNotT, Dl.r_And, Dl.r_kAnd, Dl.r_kAnd2t, Dl.r_kAnd2f, Dl.r_Or, Dl.r_kOr, Dl.r_kOr2t, Dl.r_kOr2f, Dl.r_Not, Dl.r_kNot, Dl.r_Tru, Dl.r_kTru, Dl.r_kTru2, Dl.r_truB, Dl.r_truI, Dl.r_truL, Dl.r_truN, Dl.r_IfE, Dl.r_kIfE, Dl.r_kIfEt, Dl.r_kIfEf, Dl.r_nil, Dl.r_cons, Dl.r_kCons, Dl.r_kCons2, Dl.r_Tup, Dl.r_kTup0, Dl.r_kTup1, Dl.r_kTup2, Dl.r_kTup3, Dl.r_kTup4, Dl.r_kTup5, Dl.r_kTup6, Dl.r_kTup7, Dl.r_kTup8, Dl.r_kTup9, Dl.r_Lst, Dl.r_kLst0, Dl.r_kLst1, Dl.r_kLst2, Dl.r_kLst3, Dl.r_kLst4, Dl.r_kLst5, Dl.r_kLst6, Dl.r_kLst7, Dl.r_kLst8, Dl.r_kLst9, Dl.r_FL, Dl.r_kFL0, Dl.r_kFL1, Dl.r_kFL2, Dl.r_kFL3, Dl.r_kFL4, Dl.r_kFL5, Dl.r_kFL6, Dl.r_kFL7, Dl.r_kFL8, Dl.r_kFL9, Dl.r_B, Dl.r_kB, Dl.r_Call, Dl.r_kCall0, Dl.r_kCallI0, Dl.r_kCall1, Dl.r_kCallI1, Dl.r_kCall2, Dl.r_kCallI2, Dl.r_kCall3, Dl.r_kCallI3, Dl.r_kCall4, Dl.r_kCallI4, Dl.r_kCall5, Dl.r_kCallI5, Dl.r_kCall6, Dl.r_kCallI6, Dl.r_oN, Dl.r_oS, Dl.r_kO, Dl.r_Sl, Dl.r_kSl, Dl.r_kSl2, Dl.r_kSl3, Dl.r_Kd, Dl.r_kKd, Dl.r_Ch, Dl.r_kCh, Dl.r_kCh2, Dl.r_kCh3t, Dl.r_kCh3f, Dl.r_kCh4, Dl.r_F, Dl.r_kF, Dl.r_run, Dl.r_kRun, Dl.r_kRun2, Dl.r_tgN, Dl.r_tgC, Dl.r_kTg, Dl.r_tg0, Dl.r_tgtup1, Dl.r_tgctup1, Dl.r_tgtup2, Dl.r_tgctup2, Dl.r_tgtup3, Dl.r_tgctup3, Dl.r_tgtup4, Dl.r_tgctup4, Dl.r_tgtup5, Dl.r_tgctup5, Dl.r_Asg, Dl.r_kAsg, Dl.r_kAsg2, Dl.r_Seq, Dl.r_kSeq, Dl.r_kSeqR, Dl.r_kSeqB, Dl.r_kSeqC, Dl.r_next, Dl.r_break, Dl.r_cont, Dl.r_Ret, Dl.r_kRet, Dl.r_RetN, Dl.r_RO, Dl.r_kRo, Dl.r_RC, Dl.r_kRc, Dl.r_kRcL, Dl.r_If, Dl.r_kIf, Dl.r_kIft, Dl.r_kIff, Dl.r_Own, Dl.r_kOwn, Dl.r_App, Dl.r_kApp, Dl.r_kApp2, Dl.r_Pop, Dl.r_kPop, Dl.r_Frz, Dl.r_kFrz, Dl.r_FrzT, Dl.r_kFrzT, Dl.r_For, Dl.r_kFor, Dl.r_for0, Dl.r_forS, Dl.r_kForS, Dl.r_kForN, Dl.r_kForC, Dl.r_kForB, Dl.r_kForR, Dl.r_iL, Dl.r_kLstW, Dl.r_iT, Dl.r_kTupW, Dl.r_kTupW2, Dl.r_iS, Dl.r_kStrW, Dl.r_iR1, Dl.r_kR1, Dl.r_iR2, Dl.r_kR2, Dl.r_iR3, Dl.r_kR3, Dl.r_iEn, Dl.r_kEn, Dl.r_iEnS, Dl.r_kEnS, Dl.r_nOw0, Dl.r_nOw, Dl.r_nOwV, Dl.r_nOwU, Dl.r_nOwN, Dl.r_wipe0, Dl.r_wipeS, Dl.r_Lc, Dl.r_kLc, Dl.r_Lc2, Dl.r_kLc2, Dl.r_yes, Dl.r_lc0, Dl.r_Par, Dl.r_kPar, Dl.r_Par3, Dl.r_kPar3, Dl.r_Drop, Dl.r_kDrop, Dl.r_RevL, Dl.r_kRevL, Dl.r_TupOf, Dl.r_kTupOf, Dl.r_TupRg, Dl.r_kTupRg, Dl.r_LstRg, Dl.r_kLstRg, Dl.r_Disp, Dl.r_kDisp, Dl.r_List, Dl.r_kList, Dl.r_Meth, Dl.r_kMeth0, Dl.r_kMeth1, Dl.r_kMeth2, Dl.r_kMeth3, Dl.dAdd_i, Dl.dSub_i, Dl.dLt_i, Dl.dLe_i, Dl.dGt_i, Dl.dGe_i, Dl.dEq_i, Dl.dNe_i, Dl.r_neg, List.getElem?_cons_zero, List.getElem?_cons_succ, List.set_cons_zero, List.set_cons_succ, List.getElem?_nil, Bool.and_true, Bool.true_and, Bool.and_false, Bool.false_and, Bool.not_true, Bool.not_false, decide_true, decide_false, ↓reduceIte, Bool.false_eq_true, if_true, if_false, List.length_map, Bool.and_self, not_true_eq_false, not_false_eq_true, Bool.or_true, Bool.or_false, Bool.true_or, Bool.false_or, and_false, false_and, and_true, true_and, Cm.tup2, Cm.r_tgP, Cm.dEq_pr, Cm.r_Din, Cm.r_kDin, Cm.r_kDinT, Cm.r_Fld, Cm.r_fCells, Cm.r_fFirst, Cm.r_fRim, Cm.r_mRim, Cm.r_mFirst, Cm.r_mCells, Cm.r_mHas, Cm.r_condf, Cm.r_condt, Cm.dIx_p0, Cm.dIx_p1, Cm.dNe_pr, Cm.dIn_pr, Cm.dNotIn_pr, Cm.floor_rim, Cm.floor_first, Cm.floor_cells, Cm.range_nat, Cm.nil_S, Cm.hash_S, Cm.dot_S, Cm.nl_S, Cm.e_S, Cm.n_S, Cm.w_S, Cm.s_S, List.length_range, *])
/-! A text read, by data. -/
namespace Cm
open PySem PySem.Spec L2 Dl
section
variable {ss cs : List P2} {w : List Nat} {δ : List Int} {x y : Int}
theorem eqV_S {v w : List Nat} : eqV (.str (S v)) (.str (S w)) = decide (v = w) := by
  show (S v == S w) = _
  rw [Bool.beq_eq_decide_eq]
  simp [S_inj]
def okS (c : Nat) : Bool := decide (c = 35) || decide (c = 46)
theorem dIn_sign (c : Nat) : dIn (ltrD c) (.tup [.str (S [35]), .str (S [46])]) = some (.bl (okS c)) := by
  show some (Dat.bl (inV (.str (S [c])) [.str (S [35]), .str (S [46])])) = _
  unfold inV okS
  simp only [List.any_cons, List.any_nil, Bool.or_false, eqV_S]
  congr 2
  by_cases h : c = 35
  · subst h; simp
  · by_cases h2 : c = 46
    · subst h2; simp
    · have a : ¬ (35 = c) := fun z => h z.symm
      have b : ¬ (46 = c) := fun z => h2 z.symm
      simp [h, h2, a, b]
theorem dAll_bls (ks : List Bool) : dAll [.lst (ks.map .bl)] = some (.bl (ks.all id)) := by
  show (toB (ks.map .bl)).map _ = _
  rw [toB_map]
  rfl
def rowOk (n : Int) (row : List Nat) : Bool := decide ((row.length : Int) = n) && decide (1 ≤ n ∧ n ≤ 12) && row.all okS
theorem is_row_eq {row : List Nat} {n : Int} (hl : row.length < 1000000) : G_p_is_row [.str (S row), .int n] δ = some (.bl (rowOk n row), δ) := by
  unfold G_p_is_row
  rw [r_run]
  show kRun (g_p_is_row [.val (.str (S row)), .val (.int n), .un] δ) = _
  unfold g_p_is_row rowOk
  have h0 := dLen_S hl
  by_cases h1 : (row.length : Int) = n
  · by_cases h2 : 1 ≤ n
    · by_cases h3 : n ≤ 12
      · have h4 : 1 ≤ n ∧ n ≤ 12 := ⟨h2, h3⟩
        subst h1
        have h5 : row.length < 1000000 := hl
        and_intros
        rw [lc_mapf (φ := fun (c : Nat) => .bl (okS c)) fun c hc => ⟨_, rfl, rfl, by
          have := dIn_sign c
          and_intros⟩]
        have e : (row.map fun c => Dat.bl (okS c)) = (row.map okS).map .bl := by rw [List.map_map]; rfl
        have h6 := dAll_bls (row.map okS)
        rw [e]
        clear e
        and_intros
        rw [List.all_map]
        rfl
      · have h4 : ¬ (1 ≤ n ∧ n ≤ 12) := fun z => h3 z.2
        and_intros
    · have h4 : ¬ (1 ≤ n ∧ n ≤ 12) := fun z => h2 z.1
      and_intros
  · and_intros
/-- the cells that rows draw -/
def cellsT (rows : List (List Nat)) : List P2 := (rows.reverse.zipIdx.map fun a => (a.1.zipIdx.filter fun b => decide (b.1 = 35)).map fun b => ((b.2 : Int), (a.2 : Int))).flatten
theorem dEq_sign {c d : Nat} (h : c < 128) (h2 : d < 128) : dEq (ltrD c) (.str (S [d])) = some (.bl (decide (c = d))) := by
  rw [dEq_S (by simpa using h) (by simpa using h2)]
  simp
theorem ok_lt {row : List Nat} (h : row.all okS = true) : ∀ c ∈ row, c < 128 ∧ c ≠ 10 := fun c hc => by
  have := List.all_eq_true.mp h c hc
  unfold okS at this
  simp at this
  omega
theorem read_eq {rows : List (List Nat)} {n : Nat} (hn : 1 ≤ n) (hn2 : n ≤ 12) (h0 : rows ≠ []) (h1 : rows.length ≤ 12) (h2 : ∀ row ∈ rows, row.length = n ∧ row.all okS = true) {r : Dat} (hf : G_p_Floor_init [.lst ((cellsT rows).map pD)] δ = some (r, δ)) :
    G_p_read [.str (S (TL.joinL [10] rows))] δ = some (r, δ) := by
  unfold G_p_read
  rw [r_run]
  show kRun (g_p_read [.val (.str (S (TL.joinL [10] rows))), .un, .un, .un, .un, .un, .un] δ) = _
  unfold g_p_read
  have fl : rows.flatten.length ≤ 12 * rows.length := by
    clear h0 h1 hf
    induction rows with
    | nil => simp
    | cons a l ih =>
      have := ih fun row hr => h2 row (List.mem_cons_of_mem _ hr)
      have := (h2 a List.mem_cons_self).1
      simp only [List.flatten_cons, List.length_append, List.length_cons]
      omega
  have jl := joinL_len [10] rows
  have hs := dSplit_join (s := 10) (ws := rows) h0 (by decide) (fun p hp hc => (ok_lt (h2 p hp).2 10 hc).2 rfl) (by
    have e : rows.length * [10].length = rows.length := by simp
    omega)
  and_intros
  rw [enum_zip]
  obtain ⟨row0, hr0⟩ : ∃ row0, rows[0]? = some row0 := by
    cases rows with
    | nil => exact absurd rfl h0
    | cons a l => exact ⟨a, rfl⟩
  have hix : dIx (.lst (rows.map fun w => .str (S w))) (.int 0) = some (.str (S row0)) := atI_nat' (j := 0) rfl (by rw [List.getElem?_map, hr0]; rfl)
  have hl0 := (h2 row0 (List.mem_of_getElem? hr0)).1
  obtain ⟨env', e1, s4, s5, w4, w5, e2⟩ := forD_in (δ := δ) (ι := fun (a : List Nat × Nat) => Dat.tup [.int (a.2 : Nat), .str (S a.1)]) (l := rows.zipIdx) (gd := tgTup 2 (tgCons (tgName 2) (tgCons (tgName 3) tgNil))) (b := b_p_read_1)
    (P := fun e => ∃ s4 s5, nOw (some s4) = true ∧ nOw (some s5) = true ∧ e = [.val (.str (S (TL.joinL [10] rows))), .val (.lst (rows.map fun w => .str (S w))), s4, s5, .un, .un, .un])
    (env := [.val (.str (S (TL.joinL [10] rows))), .val (.lst (rows.map fun w => .str (S w))), .un, .un, .un, .un, .un]) (fun a ha e ⟨s4, s5, _, _, he⟩ => by
      subst he
      refine ⟨_, [.val (.str (S (TL.joinL [10] rows))), .val (.lst (rows.map fun w => .str (S w))), .val (.int (a.2 : Nat)), .val (.str (S a.1)), .un, .un, .un], rfl, ?_, _, _, rfl, rfl, rfl⟩
      unfold b_p_read_1
      obtain ⟨row, k⟩ := a
      obtain ⟨_, hk, hm⟩ := List.mem_zipIdx ha
      have hk2 : ¬ ((k : Int) = 12) := by omega
      have hrow := h2 row (by rw [hm]; exact List.getElem_mem _)
      have hq := is_row_eq (δ := δ) (row := row) (n := (row0.length : Int)) (by omega)
      have hro : rowOk (row0.length : Int) row = true := by
        unfold rowOk
        rw [hrow.2, hrow.1, hl0]
        simp
        omega
      have hll := dLen_S (w := row0) (by omega)
      rw [hro] at hq
      clear hm hrow hl0 hro
      and_intros) ⟨_, _, rfl, rfl, rfl⟩
  subst e2
  clear hl0
  and_intros
  rw [← List.map_reverse, enum_zip]
  have hz : (List.map (fun (a : List Nat × Nat) => Dat.tup [.int (a.2 : Nat), .str (S a.1)]) rows.reverse.zipIdx).length ≤ 1000 := by
    rw [List.length_map, List.length_zipIdx, List.length_reverse]
    omega
  have hz2 : rows.reverse.zipIdx.length ≤ 1000 := by simpa using hz
  and_intros
  rw [lc2_mapf (φ := fun (a : List Nat × Nat) => ((a.1.zipIdx.filter fun b => decide (b.1 = 35)).map fun b => ((b.2 : Int), (a.2 : Int))).map pD) fun a ha => by
    obtain ⟨row, k⟩ := a
    obtain ⟨_, hk, hm⟩ := List.mem_zipIdx ha
    have hrow := h2 row (List.mem_reverse.mp (by rw [hm]; exact List.getElem_mem _))
    refine ⟨_, enumD (row.map ltrD), rfl, rfl, ?_, ?_, rfl, ?_⟩
    · clear hm hrow
      and_intros
    · rw [enumD_len, List.length_map]
      omega
    · rw [enum_zip, lc_filf (φ := fun (b : Nat × Nat) => pD ((b.2 : Int), (k : Int))) (p := fun b => decide (b.1 = 35)) fun b hb => ⟨_, rfl, by
        have hc := ok_lt hrow.2 b.1 (by
          obtain ⟨_, h7, h8⟩ := List.mem_zipIdx hb
          rw [h8]; exact List.getElem_mem _)
        have := dEq_sign (c := b.1) (d := 35) hc.1 (by decide)
        clear hm hrow
        and_intros, fun _ => rfl⟩, List.map_map]
      rfl]
  have ec : ((rows.reverse.zipIdx.map fun a => ((a.1.zipIdx.filter fun b => decide (b.1 = 35)).map fun b => ((b.2 : Int), (a.2 : Int))).map pD).flatten) = (cellsT rows).map pD := by
    unfold cellsT
    rw [List.map_flatten, List.map_map]
    rfl
  rw [ec]
  and_intros
end
end Cm

/-! What is written is read as it was. -/
namespace Cm
open PySem PySem.Spec L2 Dl
section
variable {ss cs : List P2} {w : List Nat} {δ : List Int}
theorem zip_range {α : Type} {f : Nat → α} {n : Nat} : ((List.range n).map f).zipIdx = (List.range n).map fun i => (f i, i) := by
  refine List.ext_getElem? fun i => ?_
  rw [List.getElem?_zipIdx, List.getElem?_map, List.getElem?_map]
  by_cases h : i < n
  · rw [List.getElem?_range h]
    simp
  · rw [List.getElem?_eq_none (by simpa using h)]
    rfl
theorem rows_rev {m n : Nat} : (rowsM ss m n).reverse = (List.range m).map fun (k : Nat) => rowM ss n (k : Int) := by
  refine List.ext_getElem? fun i => ?_
  by_cases h : i < m
  · rw [List.getElem?_reverse (by rw [rowsM_len]; exact h), rowsM_len]
    unfold rowsM
    rw [List.getElem?_map, List.getElem?_map, List.getElem?_range h, List.getElem?_range (by omega)]
    show some (rowM ss n _) = some (rowM ss n _)
    congr 2
    omega
  · rw [List.getElem?_eq_none (by rw [List.length_reverse, rowsM_len]; omega), List.getElem?_eq_none (by simpa using h)]
theorem cells_rows {m n : Nat} : cellsT (rowsM ss m n) = ((List.range m).map fun (k : Nat) => ((List.range n).filter fun (i : Nat) => decide (((i : Int), (k : Int)) ∈ ss)).map fun (i : Nat) => ((i : Int), (k : Int))).flatten := by
  unfold cellsT
  rw [rows_rev, zip_range, List.map_map]
  congr 1
  refine List.map_congr_left fun k hk => ?_
  show (List.map _ (List.filter _ (rowM ss n (k : Int)).zipIdx)) = _
  unfold rowM
  rw [zip_range, List.filter_map, List.map_map]
  have : ((fun (b : Nat × Nat) => decide (b.1 = 35)) ∘ fun (i : Nat) => ((if ((i : Int), (k : Int)) ∈ ss then 35 else 46 : Nat), i)) = fun (i : Nat) => decide (((i : Int), (k : Int)) ∈ ss) := by
    funext i
    show decide ((if ((i : Int), (k : Int)) ∈ ss then 35 else 46 : Nat) = 35) = _
    by_cases h : ((i : Int), (k : Int)) ∈ ss
    · simp [h]
    · simp [h]
  rw [this]
  rfl
theorem mem_cellsT {m n : Nat} {p : P2} : p ∈ cellsT (rowsM ss m n) ↔ p ∈ ss ∧ 0 ≤ p.1 ∧ p.1 < n ∧ 0 ≤ p.2 ∧ p.2 < m := by
  rw [cells_rows, List.mem_flatten]
  constructor
  · rintro ⟨l, hl, hp⟩
    obtain ⟨k, hk, rfl⟩ := List.mem_map.mp hl
    obtain ⟨i, hi, rfl⟩ := List.mem_map.mp hp
    obtain ⟨h1, h2⟩ := List.mem_filter.mp hi
    have h1 := List.mem_range.mp h1
    have hk := List.mem_range.mp hk
    exact ⟨of_decide_eq_true h2, by omega, by omega, by omega, by omega⟩
  · rintro ⟨h0, h1, h2, h3, h4⟩
    have e1 : ((p.1.toNat : Nat) : Int) = p.1 := Int.toNat_of_nonneg h1
    have e2 : ((p.2.toNat : Nat) : Int) = p.2 := Int.toNat_of_nonneg h3
    refine ⟨_, List.mem_map.mpr ⟨p.2.toNat, List.mem_range.mpr (by omega), rfl⟩, List.mem_map.mpr ⟨p.1.toNat, List.mem_filter.mpr ⟨List.mem_range.mpr (by omega), ?_⟩, ?_⟩⟩
    · rw [e1, e2]
      exact decide_eq_true h0
    · rw [e1, e2]
theorem nd_cellsT {m n : Nat} : (cellsT (rowsM ss m n)).Nodup := by
  rw [cells_rows]
  refine List.pairwise_flatten.mpr ?_
  constructor
  · intro l hl
    obtain ⟨k, hk, rfl⟩ := List.mem_map.mp hl
    refine List.pairwise_map.mpr ((List.nodup_range.filter _).imp fun {a b} hab z => hab ?_)
    have := (Prod.mk.inj z).1
    omega
  · refine List.pairwise_map.mpr (List.nodup_range.imp fun {a b} hab x hx y hy exy => hab ?_)
    obtain ⟨i, hi, rfl⟩ := List.mem_map.mp hx
    obtain ⟨j, hj, rfl⟩ := List.mem_map.mp hy
    have := (Prod.mk.inj exy).2
    omega
theorem perm_of {l m : List P2} (hl : l.Nodup) (hm : m.Nodup) (h : ∀ x, x ∈ l ↔ x ∈ m) : l.Perm m := (List.perm_ext_iff_of_nodup hl hm).mpr h
theorem maxI_perm {l m : List Int} (h : l.Perm m) (hl : l ≠ []) : maxI l = maxI m := by
  have hm : m ≠ [] := fun z => hl (by rw [z] at h; exact h.eq_nil)
  exact Int.le_antisymm (maxI_le _ (h.mem_iff.mp (maxI_mem hl))) (maxI_le _ (h.symm.mem_iff.mp (maxI_mem hm)))
/-- a floor is written, the rows drawn -/
def mxM (cs : List P2) : Nat := (maxI (cs.map (·.1))).toNat
def myM (cs : List P2) : Nat := (maxI (cs.map (·.2))).toNat
def textM (cs : List P2) : List Nat := TL.joinL [10] (rowsM cs (myM cs + 1) (mxM cs + 1))
theorem Gf.mx {cs : List P2} {w : List Nat} (g : Gf cs w) : maxI (cs.map (·.1)) = (mxM cs : Int) ∧ mxM cs ≤ 11 ∧ maxI (cs.map (·.2)) = (myM cs : Int) ∧ myM cs ≤ 11 := by
  have h1 := maxI_mem (ks := cs.map (·.1)) (by simpa using g.ne)
  have h2 := maxI_mem (ks := cs.map (·.2)) (by simpa using g.ne)
  obtain ⟨p, hp, e1⟩ := List.mem_map.mp h1
  obtain ⟨q, hq, e2⟩ := List.mem_map.mp h2
  have b1 := g.inb _ hp
  have b2 := g.inb _ hq
  unfold inB at b1 b2
  simp only [Bool.and_eq_true, decide_eq_true_eq] at b1 b2
  unfold mxM myM
  rw [← e1, ← e2]
  omega
theorem written_ok {cs : List P2} {w : List Nat} (g : Gf cs w) : G_p_written [flD cs w] δ = some (.str (S (textM cs)), δ) := by
  obtain ⟨h1, h2, h3, h4⟩ := g.mx
  have := g.le
  exact written_eq h1 h3 g.ne (by omega) (by omega) (by omega)
theorem rowM_ok {n : Nat} {y : Int} : (rowM ss n y).all okS = true := by
  unfold rowM
  rw [List.all_map, List.all_eq_true]
  intro i _
  show okS (if ((i : Int), y) ∈ ss then 35 else 46) = true
  split <;> rfl
theorem rowsM_ok {m n : Nat} : ∀ row ∈ rowsM ss m n, row.length = n ∧ row.all okS = true := by
  intro row h
  unfold rowsM at h
  obtain ⟨i, hi, rfl⟩ := List.mem_map.mp h
  exact ⟨rowM_len, rowM_ok⟩
/-- rows that draw the cells, and more that draw none -/
theorem read_ok {cs : List P2} {w : List Nat} (g : Gf cs w) : G_p_read [.str (S (textM cs))] δ = some (flD (sortP cs) w, δ) := by
  obtain ⟨h1, h2, h3, h4⟩ := g.mx
  have pm : (cellsT (rowsM cs (myM cs + 1) (mxM cs + 1))).Perm cs := perm_of nd_cellsT g.nd fun p => by
    rw [mem_cellsT]
    constructor
    · exact fun h => h.1
    · intro h
      have b := g.inb _ h
      unfold inB at b
      simp only [Bool.and_eq_true, decide_eq_true_eq] at b
      have l1 := maxI_le _ (List.mem_map.mpr ⟨p, h, rfl⟩ : p.1 ∈ cs.map (·.1))
      have l2 := maxI_le _ (List.mem_map.mpr ⟨p, h, rfl⟩ : p.2 ∈ cs.map (·.2))
      exact ⟨h, by omega, by omega, by omega, by omega⟩
  have g2 : Gf (cellsT (rowsM cs (myM cs + 1) (mxM cs + 1))) w := ⟨nd_cellsT, fun p hp => g.inb p (pm.mem_iff.mp hp), fun z => g.ne (by rw [z] at pm; exact pm.symm.eq_nil), by rw [pm.length_eq]; exact g.le, by rw [rim_perm pm (fun z => g.ne (by rw [z] at pm; exact pm.symm.eq_nil))]; exact g.rim⟩
  have e : sortP (cellsT (rowsM cs (myM cs + 1) (mxM cs + 1))) = sortP cs := sortP_uniq ((sortP_perm _).trans pm) (sortP_srt _)
  have hf := floor_ok (δ := δ) g2
  rw [e] at hf
  unfold textM
  exact read_eq (n := mxM cs + 1) (by omega) (by omega) (by unfold rowsM; simp) (by rw [rowsM_len]; omega) (fun row h => rowsM_ok row h) hf
theorem textM_perm {cs ds : List P2} (h : cs.Perm ds) (hc : cs ≠ []) : textM cs = textM ds := by
  have e1 : mxM cs = mxM ds := by unfold mxM; rw [maxI_perm (h.map _) (by simpa using hc)]
  have e2 : myM cs = myM ds := by unfold myM; rw [maxI_perm (h.map _) (by simpa using hc)]
  unfold textM
  rw [e1, e2]
  have : ∀ n y, rowM cs n y = rowM ds n y := fun n y => by
    unfold rowM
    refine List.map_congr_left fun i _ => ?_
    simp only [h.mem_iff]
  unfold rowsM
  simp only [this]
theorem notes_ok (cs : List P2) (w : List Nat) (δ : List Int) (g : Gf cs w) : ∃ x, G_p_written [flD (sortP cs) w] δ = some (x, δ) ∧ G_p_read [x] δ = some (flD (sortP cs) w, δ) := by
  refine ⟨_, written_ok g.sorted, ?_⟩
  rw [textM_perm (sortP_perm cs) (g.sorted.ne)]
  exact read_ok g
end
end Cm

/-! text * int, list * int. -/
namespace Dl
open PySem PySem.Spec L2
def repS (i : Str) (n : Nat) : Str := ⟨(List.replicate n i.cps.toList).flatten.toArray⟩
theorem rep_arr (i : Str) (n : Nat) : (⟨(List.replicate n i.cps).foldl (· ++ ·) #[]⟩ : Str) = repS i n := by
  have f : ∀ (m : Nat) (acc : Array Nat), (List.replicate m i.cps).foldl (· ++ ·) acc = (acc.toList ++ (List.replicate m i.cps.toList).flatten).toArray := fun m => by
    induction m with
    | zero => intro acc; simp
    | succ m ih =>
      intro acc
      rw [List.replicate_succ, List.foldl_cons, ih, List.replicate_succ, List.flatten_cons]
      simp
  unfold repS
  rw [f]
  simp
section
variable {X : Cx}
theorem op_mul_str : OpR X (binaryOp .Mult) (fun x y H Q => ∃ i k, x = .str i ∧ y = .int k ∧ -(2 ^ 63) ≤ k ∧ k < 1000000 ∧ i.length < 1000 ∧ i.length * k.toNat ≤ sizeLine ∧ Q (.str (repS i k.toNat)) H) := by
  intro pins s σ H x y v u Q I rx ry h
  obtain ⟨i, k, rfl, rfl, h1, h2, h3, h4, q⟩ := h
  obtain ⟨t, rfl⟩ := rx
  obtain ⟨t', rfl⟩ := ry
  refine PySem.P.mul_str (by rw [decide_eq_false (by omega), decide_eq_false (by omega)]; rfl) (fun hk _ hz => ?_) (fun _ _ => by unfold Builtin.Str.tooLong; simp; exact h4) ?_
  · have : (2 ^ 63 - 1) / (1000000 : Int) ≤ (2 ^ 63 - 1) / k := by
      refine (Int.le_ediv_iff_mul_le (by omega)).mpr ?_
      have h9 : (2 ^ 63 - 1) / (1000000 : Int) = 9223372036854 := by decide
      rw [h9]
      have : (9223372036854 : Int) * k ≤ 9223372036854 * 1000000 := Int.mul_le_mul_of_nonneg_left (by omega) (by omega)
      omega
    have h9 : (2 ^ 63 - 1) / (1000000 : Int) = 9223372036854 := by decide
    omega
  · by_cases a : k < 1
    · rw [if_pos a]
      refine ⟨by decide, ?_⟩
      have e : repS i k.toNat = Str.empty := by
        have : k.toNat = 0 := by omega
        rw [this]
        rfl
      rw [e] at q
      exact ⟨.str Str.empty, H, I.tok _, ⟨_, rfl⟩, q⟩
    · rw [if_neg a]
      by_cases b : (k == 1 || i.length == 0) = true
      · rw [if_pos b]
        have e : repS i k.toNat = i := by
          rw [Bool.or_eq_true, beq_iff_eq, beq_iff_eq] at b
          unfold repS
          rcases b with rfl | b
          · show (⟨(List.replicate 1 i.cps.toList).flatten.toArray⟩ : Str) = i
            simp
          · have hz : i.cps = #[] := by
              have : i.cps.size = 0 := b
              exact Array.eq_empty_of_size_eq_zero this
            obtain ⟨c⟩ := i
            have hz : c = #[] := hz
            subst hz
            simp
        rw [e] at q
        exact ⟨.str i, H, I, ⟨_, rfl⟩, q⟩
      · rw [if_neg b]
        refine ⟨?_, ?_⟩
        · rw [rep_arr]
          show (repS i k.toNat).cps.size ≤ sizeLine
          unfold repS
          simp
          have : i.cps.size = i.length := rfl
          rw [this, Nat.mul_comm]
          exact h4
        · rw [rep_arr]
          exact ⟨.str (repS i k.toNat), H, I.tok _, ⟨_, rfl⟩, q⟩
end
section
variable {X : Cx} {a b : Expr} {ta tb : TE} {f g : E} {pos : Pos} {K : PySem.W.Frag} {mg : Str → Option Value}
abbrev rMulS : R2 := fun x y H Q => ∃ i k, x = .str i ∧ y = .int k ∧ -(2 ^ 63) ≤ k ∧ k < 1000000 ∧ i.length < 1000 ∧ i.length * k.toNat ≤ sizeLine ∧ Q (.str (repS i k.toNat)) H
def dMulS : Dat → Dat → Option Dat
  | .str s, .int k => if (decide (-1000000 ≤ k) && decide (k < 1000000) && decide (s.length < 1000) && decide (s.length * k.toNat < 1000000)) = true then some (.str (repS s k.toNat)) else none
  | _, _ => none
def dMulL : Dat → Dat → Option Dat
  | .lst xs, .int k => if (decide (-1000000 ≤ k) && decide (k < 1000000) && decide (xs.length * k.toNat < 1000000)) = true then some (.lst (List.replicate k.toNat xs).flatten) else none
  | _, _ => none
theorem ref_mulS : RefO K mg rMulS dMulS := by
  intro d N H v w x y z Q hd hN rv rw' e kq
  cases x <;> cases y <;> first | (cases e; done) | skip
  rename_i s k
  cases rv
  cases rw'
  have e : (if (decide (-1000000 ≤ k) && decide (k < 1000000) && decide (s.length < 1000) && decide (s.length * k.toNat < 1000000)) = true then some (Dat.str (repS s k.toNat)) else none) = some z := e
  split at e
  · rename_i h
    simp only [Bool.and_eq_true, decide_eq_true_eq] at h
    cases e
    exact ⟨s, k, rfl, rfl, by omega, h.1.1.2, h.1.2, le_line h.2, kq _ H same_refl (.str _)⟩
  · cases e
theorem RpA.rep {d : Option Addr} {N : Addr → Prop} {H : Hp} {vs : List V} {xs : List Dat} (h : RpA K mg d N H vs xs) : ∀ n : Nat, RpA K mg d N H (List.replicate n vs).flatten (List.replicate n xs).flatten
  | 0 => .nil
  | n + 1 => by
    rw [List.replicate_succ, List.replicate_succ, List.flatten_cons, List.flatten_cons]
    exact h.append (RpA.rep h n)
theorem ref_mulL : RefO K mg rRep dMulL := by
  intro d N H v w x y z Q hd hN rv rw' e kq
  cases x <;> cases y <;> first | (cases e; done) | skip
  rename_i xs k
  cases rw'
  have e : (if (decide (-1000000 ≤ k) && decide (k < 1000000) && decide (xs.length * k.toNat < 1000000)) = true then some (Dat.lst (List.replicate k.toNat xs).flatten) else none) = some z := e
  split at e
  · rename_i h
    simp only [Bool.and_eq_true, decide_eq_true_eq] at h
    cases e
    obtain ⟨a, vs, rfl, e2, e3, r⟩ := rv
    refine ⟨a, k, vs, rfl, rfl, e2, by omega, by omega, by rw [r.length]; exact le_line h.2, fun p hp => ?_⟩
    have s := same_fresh (o := .lst (List.replicate k.toNat vs).flatten) hp
    exact kq _ _ s (.lst upd_same (fun z => hN _ z hp) (RpA.keep (.of_same s) (fun b z => .inl z) _ _ (RpA.rep r _)))
  · cases e
abbrev rMulU : R2 := fun x y H Q => rMulS x y H Q ∨ rRep x y H Q
def dMulU : Dat → Dat → Option Dat := fun x y => (dMulS x y).orElse fun _ => dMulL x y
theorem d_mulU (ha : DE X a ta f) (hb : DE X b tb g) : DS X (.BinOp a .Mult b pos) (tOp rMulU ta tb) (eOp dMulU f g) := d_op (op_mul_str.or op_rep) (refO_or ref_mulS ref_mulL) ha hb
theorem repS_S (w : List Nat) (n : Nat) : repS (S w) n = S (List.replicate n w).flatten := rfl
theorem dMulU_S {w : List Nat} {k : Int} (h1 : -1000000 ≤ k) (h2 : k < 1000000) (h3 : w.length < 1000) (h4 : w.length * k.toNat < 1000000) : dMulU (.str (S w)) (.int k) = some (.str (S (List.replicate k.toNat w).flatten)) := by
  show (if (decide (-1000000 ≤ k) && decide (k < 1000000) && decide ((S w).length < 1000) && decide ((S w).length * k.toNat < 1000000)) = true then some (Dat.str (repS (S w) k.toNat)) else none).orElse _ = _
  rw [if_pos (by rw [S_len]; simp [h1, h2, h3, h4])]
  rfl
theorem dMulU_l {xs : List Dat} {k : Int} (h1 : -1000000 ≤ k) (h2 : k < 1000000) (h4 : xs.length * k.toNat < 1000000) : dMulU (.lst xs) (.int k) = some (.lst (List.replicate k.toNat xs).flatten) := by
  show (if (decide (-1000000 ≤ k) && decide (k < 1000000) && decide (xs.length * k.toNat < 1000000)) = true then some (Dat.lst (List.replicate k.toNat xs).flatten) else none) = _
  rw [if_pos (by simp [h1, h2, h4])]
end
end Dl

/-! The law's own text of a floor, by data (printed by a tool of mine). -/
namespace Cm
open PySem PySem.Spec L2 Dl
abbrev N_l_text : List Str := ["_law_cells_here", "_law_wide", "_law_high", "_law_cell", "_law_row", "_law_x"]
def g_l_text : Sg :=
    (gSeq (gAsg (tgName 1) (eOp dAdd (eB dMax (aCons (eF (fLc (iLst (eVar 0)) (tgName 3) eYes (eOp dIx (eVar 3) (eC (.int 0))) [3])) aNil)) (eC (.int 1))))
    (gSeq (gAsg (tgName 2) (eOp dAdd (eB dMax (aCons (eF (fLc (iLst (eVar 0)) (tgName 3) eYes (eOp dIx (eVar 3) (eC (.int 1))) [3])) aNil)) (eC (.int 1))))
    (gRet (eF (fLc (iR1 (aCons (eVar 2) aNil)) (tgName 4) eYes (eOp dJoin (eC (.str "")) (eF (fLc (iR1 (aCons (eVar 1) aNil)) (tgName 5) eYes (eOp dIx (eC (.str ".#")) (eB dInt (aCons (eOp dIn (eTup (aCons (eVar 5) (aCons (eOp dSub (eOp dSub (eVar 2) (eC (.int 1))) (eVar 4)) aNil))) (eVar 0)) aNil))) [5]))) [4])))))
def G_l_text : GF := runG N_l_text g_l_text
end Cm

namespace K21
open PySem PySem.Spec L2 Dl Cm
open PyProof.Rows (envOfC)
def top (i : Nat) : Stmt := PySem.Challenge.pw_rimword_k21_whole_drawn_and_read.main.body.getD i (.Pass ⟨0, 0, 0, 0⟩)
structure Zs (mg : Str → Option Value) : Prop where
  z_abs : mg "abs" = none
  z_all : mg "all" = none
  z_bool : mg "bool" = none
  z_dict : mg "dict" = none
  z_enumerate : mg "enumerate" = none
  z_int : mg "int" = none
  z_isinstance : mg "isinstance" = none
  z_len : mg "len" = none
  z_list : mg "list" = none
  z_max : mg "max" = none
  z_min : mg "min" = none
  z_range : mg "range" = none
  z_set : mg "set" = none
  z_sorted : mg "sorted" = none
  z_str : mg "str" = none
  z_tuple : mg "tuple" = none
section
variable {P : Program} {w : World} {K : PySem.W.Frag} {mg : Str → Option Value} {base : Heap}
structure CF_Floor (K : PySem.W.Frag) (mg : Str → Option Value) (C : Addr) : Prop where
  cl : ClO K mg "Floor" C
  na__cells : NoAttr K C "_cells"
  na__first : NoAttr K C "_first"
  na__rim : NoAttr K C "_rim"
abbrev s_p_corners : Stmt := top 6
theorem sc_p_corners : FnScope N_p_corners ["corner", "word"] (defScope s_p_corners) := ⟨rfl, rfl, rfl, by decide +kernel, rfl, by decide +kernel, by decide +kernel⟩
theorem ok_p_corners {f : Addr} {fd : FuncData} (h : Has K mg "corners" s_p_corners ["corner", "word"] f fd) (Z : Zs mg)    {a_MOVES : Addr} (C_MOVES : KdO K w mg "MOVES" a_MOVES tbl_MOVES) : OkG P w K mg base 1 "corners" ["corner", "word"] G_p_corners := by
  refine h.ok (k := 0) sc_p_corners (fun cdv A outer s H E hr => ?_)
  exact ⟨_, (d_cons (d_asg (d_var 0 (pv 0)) (d_gtup rfl (d_gcons (d_gname 2 (pg_name (i := 2) sc_p_corners.nd rfl (by first | exact Or.inl rfl | exact Or.inr rfl))) (d_gcons (d_gname 3 (pg_name (i := 3) sc_p_corners.nd rfl (by first | exact Or.inl rfl | exact Or.inr rfl))) d_gnil))))
      (d_cons (d_own 4 (d_lstF (d_acons (d_tup (d_acons (d_var 2 (pv 2)) (d_acons (d_var 3 (pv 3)) d_anil))) d_anil)) (fun he => ps_set (i := 4) sc_p_corners.nd rfl (by first | exact Or.inl rfl | exact Or.inr rfl) he))
      (d_cons (d_for PassesOwn.never rfl (d_istr (DS.w (d_var 1 (pv 1)))) (d_gname 5 (pg_name (i := 5) sc_p_corners.nd rfl (by first | exact Or.inl rfl | exact Or.inr rfl)))
      (d_cons (d_asg (d_kdO C_MOVES (by rfl) (DS.w (d_var 5 (pv 5)))) (d_gtup rfl (d_gcons (d_gname 6 (pg_name (i := 6) sc_p_corners.nd rfl (by first | exact Or.inl rfl | exact Or.inr rfl))) (d_gcons (d_gname 7 (pg_name (i := 7) sc_p_corners.nd rfl (by first | exact Or.inl rfl | exact Or.inr rfl))) d_gnil))))
      (d_cons (d_set 2 (d_add (DS.w (d_var 2 (pv 2))) (DS.w (d_var 6 (pv 6)))) (fun he => ps_set (i := 2) sc_p_corners.nd rfl (by first | exact Or.inl rfl | exact Or.inr rfl) he))
      (d_cons (d_set 3 (d_add (DS.w (d_var 3 (pv 3))) (DS.w (d_var 7 (pv 7)))) (fun he => ps_set (i := 3) sc_p_corners.nd rfl (by first | exact Or.inl rfl | exact Or.inr rfl) he))
      (d_last (d_append 4 (d_tup (d_acons (d_var 2 (pv 2)) (d_acons (d_var 3 (pv 3)) d_anil))) (fun ha => ps_expr (pe_bm PySem.F.plainAttrs_list PySem.F.slot_list_append PySem.F.type_list_append mt_append (pv 4) ha))))))))
      (d_last (d_retOwn 4 (pv 4))))))⟩
abbrev s_p_check_cells : Stmt := top 12
theorem sc_p_check_cells : FnScope N_p_check_cells ["cells"] (defScope s_p_check_cells) := ⟨rfl, rfl, rfl, by decide +kernel, rfl, by decide +kernel, by decide +kernel⟩
theorem ok_p_check_cells {f : Addr} {fd : FuncData} (h : Has K mg "check_cells" s_p_check_cells ["cells"] f fd) (Z : Zs mg)   (K_LAST : GlI mg "LAST" (11)) (K_MOST_CELLS : GlI mg "MOST_CELLS" (40))  : OkG P w K mg base 1 "check_cells" ["cells"] G_p_check_cells := by
  refine h.ok (k := 0) sc_p_check_cells (fun cdv A outer s H E hr => ?_)
  exact ⟨_, (d_cons (d_if (d_tnot (d_tchain op_le op_le refO_bl0 refO_bl0 (DS.w d_int) (DS.w (d_callB call_lenU ref_len (by rfl) Z.z_len PySem.boot_len (d_abcons (DS.w (d_var 0 (pv 0))) d_abnil))) (DS.w (d_gi K_MOST_CELLS (by rfl)))))
      (d_last d_never1)
      d_nil)
      (d_chk2 0 1 2 3 (by decide) (by decide) (by decide) (by decide) (by decide) (by decide) (ps_set (i := 1) sc_p_check_cells.nd rfl (by first | exact Or.inl rfl | exact Or.inr rfl) (pe_callTy0 Ts.cr_new (by rfl) Z.z_set PyProof.Rows.boot_set)) PassesOwn.never rfl (d_ilist (d_var 0 (pv 0))) (d_gtup rfl (d_gcons (d_gname 2 (pg_name (i := 2) sc_p_check_cells.nd rfl (by first | exact Or.inl rfl | exact Or.inr rfl))) (d_gcons (d_gname 3 (pg_name (i := 3) sc_p_check_cells.nd rfl (by first | exact Or.inl rfl | exact Or.inr rfl))) d_gnil))) (d_tnot (DW.dt (d_and (d_tchain op_le op_le refO_bl0 refO_bl0 (DS.w d_int) (DS.w (d_var 2 (pv 2))) (DS.w (d_gi K_LAST (by rfl)))) (d_and1 (d_tchain op_le op_le refO_bl0 refO_bl0 (DS.w d_int) (DS.w (d_var 3 (pv 3))) (DS.w (d_gi K_LAST (by rfl)))))))) (d_tup (d_acons (d_var 2 (pv 2)) (d_acons (d_var 3 (pv 3)) d_anil))) (fun ht => pt_cmpR (Ts.or_in hr.units) ht (pv 1) (by rfl)) (d_tup (d_acons (d_var 2 (pv 2)) (d_acons (d_var 3 (pv 3)) d_anil))) (fun ht => Ts.pe_add hr.units (pv 1) ht) (fun _ _ => rfl) chk_eA chk_eT))⟩
abbrev s_p_first_corner : Stmt := top 13
theorem sc_p_first_corner : FnScope N_p_first_corner ["cells"] (defScope s_p_first_corner) := ⟨rfl, rfl, rfl, by decide +kernel, rfl, by decide +kernel, by decide +kernel⟩
theorem ok_p_first_corner {f : Addr} {fd : FuncData} (h : Has K mg "first_corner" s_p_first_corner ["cells"] f fd) (Z : Zs mg)     : OkG P w K mg base 1 "first_corner" ["cells"] G_p_first_corner := by
  refine h.ok (k := 0) sc_p_first_corner (fun cdv A outer s H E hr => ?_)
  exact ⟨_, (d_cons (d_set 1 (d_callB (cr_min rfl) ref_min (by rfl) Z.z_min PyProof.Rows.boot_min (d_abcons (DS.w (DF.s (d_lc (own := [("x", 2), ("y", 3)]) (tgd := (gTup K 2 (gCons (gName 2) (gCons (gName 3) gNil)))) (tt := tYes) (te := (tVar 3)) (gd := (tgTup 2 (tgCons (tgName 2) (tgCons (tgName 3) tgNil)))) (ft := eYes) (fe := (eVar 3)) rfl sc_p_first_corner.nd (d_ilist (d_var 0 (pv 0))) (blkOk_by (own := [("x", 2), ("y", 3)]) (N := N_p_first_corner) (sc := defScope s_p_first_corner) (by decide +kernel)) (fun _ _ _ _ _ => by exact (d_gtup rfl (d_gcons (d_gname 2 (pg_name (i := 2) sc_p_first_corner.nd rfl (by first | exact Or.inl rfl | exact Or.inr rfl))) (d_gcons (d_gname 3 (pg_name (i := 3) sc_p_first_corner.nd rfl (by first | exact Or.inl rfl | exact Or.inr rfl))) d_gnil)))) (fun _ _ _ _ _ => by exact d_tsnil) (fun _ _ _ _ _ => by exact (d_var 3 (pv 3)))))) d_abnil)) (fun he => ps_set (i := 1) sc_p_first_corner.nd rfl (by first | exact Or.inl rfl | exact Or.inr rfl) he))
      (d_last (d_ret (d_tup (d_acons (d_callB (cr_min rfl) ref_min (by rfl) Z.z_min PyProof.Rows.boot_min (d_abcons (DS.w (DF.s (d_lc (own := [("x", 2), ("y", 3)]) (tgd := (gTup K 2 (gCons (gName 2) (gCons (gName 3) gNil)))) (tt := (tTest (tOp (rEqD K) (tVar 3) (tVar 1)))) (te := (tVar 2)) (gd := (tgTup 2 (tgCons (tgName 2) (tgCons (tgName 3) tgNil)))) (ft := (eTest (eOp dEq (eVar 3) (eVar 1)))) (fe := (eVar 2)) rfl sc_p_first_corner.nd (d_ilist (d_var 0 (pv 0))) (blkOk_by (own := [("x", 2), ("y", 3)]) (N := N_p_first_corner) (sc := defScope s_p_first_corner) (by decide +kernel)) (fun _ _ _ _ _ => by exact (d_gtup rfl (d_gcons (d_gname 2 (pg_name (i := 2) sc_p_first_corner.nd rfl (by first | exact Or.inl rfl | exact Or.inr rfl))) (d_gcons (d_gname 3 (pg_name (i := 3) sc_p_first_corner.nd rfl (by first | exact Or.inl rfl | exact Or.inr rfl))) d_gnil)))) (fun _ _ _ _ _ => by exact (d_tsone (d_teq hr (DS.w (d_var 3 (pv 3))) (DS.w (d_var 1 (pv 1)))))) (fun _ _ _ _ _ => by exact (d_var 2 (pv 2)))))) d_abnil)) (d_acons (d_var 1 (pv 1)) d_anil))))))⟩
abbrev s_p_rim_word : Stmt := top 15
theorem sc_p_rim_word : FnScope N_p_rim_word ["first", "leaving"] (defScope s_p_rim_word) := ⟨rfl, rfl, rfl, by decide +kernel, rfl, by decide +kernel, by decide +kernel⟩
theorem ok_p_rim_word {f : Addr} {fd : FuncData} (h : Has K mg "rim_word" s_p_rim_word ["first", "leaving"] f fd) (Z : Zs mg)  (c_p_corners : OkG P w K mg base 1 "corners" ["corner", "word"] G_p_corners)   : OkG P w K mg base 2 "rim_word" ["first", "leaving"] G_p_rim_word := by
  refine h.ok (k := 1) sc_p_rim_word (fun cdv A outer s H E hr => ?_)
  exact ⟨_, (d_cons (d_set 2 (d_dgetT hr (DS.w (d_var 1 (pv 1))) (DS.w (d_var 0 (pv 0)))) (fun he => ps_set (i := 2) sc_p_rim_word.nd rfl (by first | exact Or.inl rfl | exact Or.inr rfl) he))
      (d_cons (d_set 3 (d_ix (DS.w (d_callO c_p_corners (hr.mono (by decide)) (by rfl) (d_acons (d_var 0 (pv 0)) (d_acons (d_var 2 (pv 2)) d_anil)))) (DS.w (d_neg (DS.w d_int)))) (fun he => ps_set (i := 3) sc_p_rim_word.nd rfl (by first | exact Or.inl rfl | exact Or.inr rfl) he))
      (d_cons (d_while 100000 PassesOwn.never (d_tne hr (DS.w (d_var 3 (pv 3))) (DS.w (d_var 0 (pv 0))))
      (d_cons (d_set 4 (d_dgetT hr (DS.w (d_var 1 (pv 1))) (DS.w (d_var 3 (pv 3)))) (fun he => ps_set (i := 4) sc_p_rim_word.nd rfl (by first | exact Or.inl rfl | exact Or.inr rfl) he))
      (d_cons (d_set 2 (d_add (DS.w (d_var 2 (pv 2))) (DS.w (d_var 4 (pv 4)))) (fun he => ps_set (i := 2) sc_p_rim_word.nd rfl (by first | exact Or.inl rfl | exact Or.inr rfl) he))
      (d_last (d_set 3 (d_ix (DS.w (d_callO c_p_corners (hr.mono (by decide)) (by rfl) (d_acons (d_var 3 (pv 3)) (d_acons (d_var 4 (pv 4)) d_anil)))) (DS.w (d_neg (DS.w d_int)))) (fun he => ps_set (i := 3) sc_p_rim_word.nd rfl (by first | exact Or.inl rfl | exact Or.inr rfl) he))))))
      (d_cons (d_if (d_tlt (DS.w (d_callB call_lenU ref_len (by rfl) Z.z_len PySem.boot_len (d_abcons (DS.w (d_var 2 (pv 2))) d_abnil))) (DS.w (d_callB cr_lenR ref_lenR (by rfl) Z.z_len PySem.boot_len (d_abcons (DS.w (d_var 1 (pv 1))) d_abnil))))
      (d_last d_never1)
      d_nil)
      (d_last (d_ret (d_var 2 (pv 2))))))))⟩
abbrev s_p_rim_steps : Stmt := top 14
theorem sc_p_rim_steps : FnScope N_p_rim_steps ["held"] (defScope s_p_rim_steps) := ⟨rfl, rfl, rfl, by decide +kernel, rfl, by decide +kernel, by decide +kernel⟩
theorem ok_p_rim_steps {f : Addr} {fd : FuncData} (h : Has K mg "rim_steps" s_p_rim_steps ["held"] f fd) (Z : Zs mg)   {a_SIDES : Addr} (K_SIDES : GlT K mg "SIDES" a_SIDES tup_SIDES)  : OkG P w K mg base 1 "rim_steps" ["held"] G_p_rim_steps := by
  refine h.ok (k := 0) sc_p_rim_steps (fun cdv A outer s H E hr => ?_)
  exact ⟨_, (d_cons (d_newT 1 (fun he => ps_set (i := 1) sc_p_rim_steps.nd rfl (by first | exact Or.inl rfl | exact Or.inr rfl) he))
      (d_cons (d_forK 0 PassesOwn.never rfl (pv 0) (d_gtup rfl (d_gcons (d_gname 2 (pg_name (i := 2) sc_p_rim_steps.nd rfl (by first | exact Or.inl rfl | exact Or.inr rfl))) (d_gcons (d_gname 3 (pg_name (i := 3) sc_p_rim_steps.nd rfl (by first | exact Or.inl rfl | exact Or.inr rfl))) d_gnil)))
      (d_last (d_for PassesOwn.never rfl (d_ituple (DS.w (d_gT K_SIDES (by rfl)))) (d_gtup rfl (d_gcons (d_gname 4 (pg_name (i := 4) sc_p_rim_steps.nd rfl (by first | exact Or.inl rfl | exact Or.inr rfl))) (d_gcons (d_gtup rfl (d_gcons (d_gname 5 (pg_name (i := 5) sc_p_rim_steps.nd rfl (by first | exact Or.inl rfl | exact Or.inr rfl))) (d_gcons (d_gname 6 (pg_name (i := 6) sc_p_rim_steps.nd rfl (by first | exact Or.inl rfl | exact Or.inr rfl))) d_gnil))) (d_gcons (d_gtup rfl (d_gcons (d_gname 7 (pg_name (i := 7) sc_p_rim_steps.nd rfl (by first | exact Or.inl rfl | exact Or.inr rfl))) (d_gcons (d_gname 8 (pg_name (i := 8) sc_p_rim_steps.nd rfl (by first | exact Or.inl rfl | exact Or.inr rfl))) d_gnil))) d_gnil))))
      (d_cons (d_if (d_tdin hr (DS.w (d_tup (d_acons (d_add (DS.w (d_var 2 (pv 2))) (DS.w (d_var 7 (pv 7)))) (d_acons (d_add (DS.w (d_var 3 (pv 3))) (DS.w (d_var 8 (pv 8)))) d_anil)))) (DS.w (d_var 0 (pv 0))))
      (d_last d_cont)
      d_nil)
      (d_cons (d_set 9 (d_tup (d_acons (d_add (DS.w (d_var 2 (pv 2))) (DS.w (d_var 5 (pv 5)))) (d_acons (d_add (DS.w (d_var 3 (pv 3))) (DS.w (d_var 6 (pv 6)))) d_anil))) (fun he => ps_set (i := 9) sc_p_rim_steps.nd rfl (by first | exact Or.inl rfl | exact Or.inr rfl) he))
      (d_cons (d_if (d_tdin hr (DS.w (d_var 9 (pv 9))) (d_varB 1 (pv 1)))
      (d_last d_never1)
      d_nil)
      (d_last (d_putT 1 hr (pv 1) (DS.w (d_var 9 (pv 9))) (d_var 4 (pv 4))))))))))
      (d_last (d_retC 1 (pv 1)))))⟩
abbrev s_p_Floor_init : Stmt := inClass (top 11) 0
theorem sc_p_Floor_init : FnScope N_p_Floor_init ["self", "cells"] (defScope s_p_Floor_init) := ⟨rfl, rfl, rfl, by decide +kernel, rfl, by decide +kernel, by decide +kernel⟩
theorem ok_p_Floor_init {f : Addr} {fd : FuncData} {C_Floor : Addr} (h : HasI K C_Floor "Floor.__init__" s_p_Floor_init ["self", "cells"] f fd) (Z : Zs mg)  (T_Floor : CF_Floor K mg C_Floor) (c_p_check_cells : OkG P w K mg base 1 "check_cells" ["cells"] G_p_check_cells) (c_p_first_corner : OkG P w K mg base 1 "first_corner" ["cells"] G_p_first_corner) (c_p_rim_steps : OkG P w K mg base 1 "rim_steps" ["held"] G_p_rim_steps) (c_p_rim_word : OkG P w K mg base 2 "rim_word" ["first", "leaving"] G_p_rim_word)  : OkC P w K mg base 3 "Floor" C_Floor ["self", "cells"] G_p_Floor_init := by
  refine h.ok (k := 2) sc_p_Floor_init (by decide) (fun cdv A outer s H E hr => ?_)
  exact ⟨_, (d_cons (d_drop (DS.w (d_callO c_p_check_cells (hr.mono (by decide)) (by rfl) (d_acons (d_var 1 (pv 1)) d_anil))))
      (d_cons (d_set 2 (d_callB cr_sortedPO ref_sorted (by rfl) Z.z_sorted PyProof.Rows.boot_sorted (d_abcons (DS.w (DF.s (d_lc (own := [("x", 3), ("y", 4)]) (tgd := (gTup K 2 (gCons (gName 3) (gCons (gName 4) gNil)))) (tt := tYes) (te := (tTup (tCons (tVar 3) (tCons (tVar 4) tNil)))) (gd := (tgTup 2 (tgCons (tgName 3) (tgCons (tgName 4) tgNil)))) (ft := eYes) (fe := (eTup (aCons (eVar 3) (aCons (eVar 4) aNil)))) rfl sc_p_Floor_init.nd (d_ilist (d_var 1 (pv 1))) (blkOk_by (own := [("x", 3), ("y", 4)]) (N := N_p_Floor_init) (sc := defScope s_p_Floor_init) (by decide +kernel)) (fun _ _ _ _ _ => by exact (d_gtup rfl (d_gcons (d_gname 3 (pg_name (i := 3) sc_p_Floor_init.nd rfl (by first | exact Or.inl rfl | exact Or.inr rfl))) (d_gcons (d_gname 4 (pg_name (i := 4) sc_p_Floor_init.nd rfl (by first | exact Or.inl rfl | exact Or.inr rfl))) d_gnil)))) (fun _ _ _ _ _ => by exact d_tsnil) (fun _ _ _ _ _ => by exact (d_tup (d_acons (d_var 3 (pv 3)) (d_acons (d_var 4 (pv 4)) d_anil))))))) d_abnil)) (fun he => ps_set (i := 2) sc_p_Floor_init.nd rfl (by first | exact Or.inl rfl | exact Or.inr rfl) he))
      (d_cons (d_sfld 0 T_Floor.cl T_Floor.na__cells (pv 0) (d_dcT (own := [("cell", 5)]) (tgd := (gName 5)) (tt := tYes) (tk := (tVar 5)) (tv := (tC (.bl true))) (gd := (tgName 5)) (ft := eYes) (fk := (eVar 5)) (fv := (eC (.bl true))) hr rfl sc_p_Floor_init.nd (d_ilist (d_var 2 (pv 2))) (blkOk_by (own := [("cell", 5)]) (N := N_p_Floor_init) (sc := defScope s_p_Floor_init) (by decide +kernel)) (fun _ _ _ _ _ => by exact (d_gname 5 (pg_name (i := 5) sc_p_Floor_init.nd rfl (by first | exact Or.inl rfl | exact Or.inr rfl)))) (fun _ _ _ _ _ => by exact d_tsnil) (fun _ _ _ _ _ => by exact (DS.w (d_var 5 (pv 5)))) (fun _ _ _ _ _ => by exact d_bl)))
      (d_cons (d_sfld 0 T_Floor.cl T_Floor.na__first (pv 0) (d_callO c_p_first_corner (hr.mono (by decide)) (by rfl) (d_acons (d_var 2 (pv 2)) d_anil)))
      (d_last (d_sfld 0 T_Floor.cl T_Floor.na__rim (pv 0) (d_callO c_p_rim_word (hr.mono (by decide)) (by rfl) (d_acons (d_fld T_Floor.cl T_Floor.na__first (d_varB 0 (pv 0))) (d_acons (d_callO c_p_rim_steps (hr.mono (by decide)) (by rfl) (d_acons (d_fld T_Floor.cl T_Floor.na__cells (d_varB 0 (pv 0))) d_anil)) d_anil)))))))))⟩
abbrev s_p_Floor_cells : Stmt := inClass (top 11) 1
theorem sc_p_Floor_cells : FnScope N_p_Floor_cells ["self"] (defScope s_p_Floor_cells) := ⟨rfl, rfl, rfl, by decide +kernel, rfl, by decide +kernel, by decide +kernel⟩
theorem ok_p_Floor_cells {f : Addr} {fd : FuncData} {C_Floor : Addr} (h : HasM K C_Floor "cells" "Floor.cells" s_p_Floor_cells ["self"] f fd) (Z : Zs mg)  (T_Floor : CF_Floor K mg C_Floor)  : MtG P w K mg base 1 C_Floor "cells" ["self"] G_p_Floor_cells := by
  refine h.ok (k := 0) sc_p_Floor_cells (fun cdv A outer s H E hr => ?_)
  exact ⟨_, (d_last (d_ret (d_callTy (call_list_dT rfl) ref_listR (by rfl) Z.z_list PyProof.Rows.boot_list (d_abcons (DS.w (d_fld T_Floor.cl T_Floor.na__cells (DS.w (d_var 0 (pv 0))))) d_abnil))))⟩
abbrev s_p_Floor_has : Stmt := inClass (top 11) 2
theorem sc_p_Floor_has : FnScope N_p_Floor_has ["self", "x", "y"] (defScope s_p_Floor_has) := ⟨rfl, rfl, rfl, by decide +kernel, rfl, by decide +kernel, by decide +kernel⟩
theorem ok_p_Floor_has {f : Addr} {fd : FuncData} {C_Floor : Addr} (h : HasM K C_Floor "has" "Floor.has" s_p_Floor_has ["self", "x", "y"] f fd) (Z : Zs mg)  (T_Floor : CF_Floor K mg C_Floor)  : MtG P w K mg base 1 C_Floor "has" ["self", "x", "y"] G_p_Floor_has := by
  refine h.ok (k := 0) sc_p_Floor_has (fun cdv A outer s H E hr => ?_)
  exact ⟨_, (d_last (d_ret (d_din hr (DS.w (d_tup (d_acons (d_var 1 (pv 1)) (d_acons (d_var 2 (pv 2)) d_anil)))) (DS.w (d_fld T_Floor.cl T_Floor.na__cells (DS.w (d_var 0 (pv 0))))))))⟩
abbrev s_p_Floor_first : Stmt := inClass (top 11) 3
theorem sc_p_Floor_first : FnScope N_p_Floor_first ["self"] (defScope s_p_Floor_first) := ⟨rfl, rfl, rfl, by decide +kernel, rfl, by decide +kernel, by decide +kernel⟩
theorem ok_p_Floor_first {f : Addr} {fd : FuncData} {C_Floor : Addr} (h : HasM K C_Floor "first" "Floor.first" s_p_Floor_first ["self"] f fd) (Z : Zs mg)  (T_Floor : CF_Floor K mg C_Floor)  : MtG P w K mg base 1 C_Floor "first" ["self"] G_p_Floor_first := by
  refine h.ok (k := 0) sc_p_Floor_first (fun cdv A outer s H E hr => ?_)
  exact ⟨_, (d_last (d_ret (d_fld T_Floor.cl T_Floor.na__first (DS.w (d_var 0 (pv 0))))))⟩
abbrev s_p_Floor_rim : Stmt := inClass (top 11) 4
theorem sc_p_Floor_rim : FnScope N_p_Floor_rim ["self"] (defScope s_p_Floor_rim) := ⟨rfl, rfl, rfl, by decide +kernel, rfl, by decide +kernel, by decide +kernel⟩
theorem ok_p_Floor_rim {f : Addr} {fd : FuncData} {C_Floor : Addr} (h : HasM K C_Floor "rim" "Floor.rim" s_p_Floor_rim ["self"] f fd) (Z : Zs mg)  (T_Floor : CF_Floor K mg C_Floor)  : MtG P w K mg base 1 C_Floor "rim" ["self"] G_p_Floor_rim := by
  refine h.ok (k := 0) sc_p_Floor_rim (fun cdv A outer s H E hr => ?_)
  exact ⟨_, (d_last (d_ret (d_fld T_Floor.cl T_Floor.na__rim (DS.w (d_var 0 (pv 0))))))⟩
abbrev s_p_drawn_row : Stmt := top 22
theorem sc_p_drawn_row : FnScope N_p_drawn_row ["floor", "y", "wide"] (defScope s_p_drawn_row) := ⟨rfl, rfl, rfl, by decide +kernel, rfl, by decide +kernel, by decide +kernel⟩
theorem ok_p_drawn_row {f : Addr} {fd : FuncData} (h : Has K mg "drawn_row" s_p_drawn_row ["floor", "y", "wide"] f fd) (Z : Zs mg) {C_Floor : Addr} (T_Floor : CF_Floor K mg C_Floor) (c_p_Floor_has : MtG P w K mg base 1 C_Floor "has" ["self", "x", "y"] G_p_Floor_has) (K_CELL : GlS mg "CELL" "#") (K_EMPTY : GlS mg "EMPTY" ".")  : OkG P w K mg base 2 "drawn_row" ["floor", "y", "wide"] G_p_drawn_row := by
  refine h.ok (k := 1) sc_p_drawn_row (fun cdv A outer s H E hr => ?_)
  exact ⟨_, (d_last (d_ret (d_join (DS.w d_str) (DS.w (DF.s (d_lc (own := [("x", 3)]) (tgd := (gName 3)) (tt := tYes) (te := (tIf (t_tru K (tMeth C_Floor "has" (spG K mg (["self", "x", "y"] : List Str).length G_p_Floor_has) [] E0 (tVar 0) (tCons (tVar 3) (tCons (tVar 1) tNil)))) (tC (.str "#")) (tC (.str ".")))) (gd := (tgName 3)) (ft := eYes) (fe := (eIf (eTru (eMeth "Floor" "has" (["self", "x", "y"] : List Str).length G_p_Floor_has (eVar 0) (aCons (eVar 3) (aCons (eVar 1) aNil)))) (eC (.str "#")) (eC (.str ".")))) rfl sc_p_drawn_row.nd (d_irange1 (by rfl) Z.z_range (d_abcons (DS.w (d_var 2 (pv 2))) d_abnil)) (blkOk_by (own := [("x", 3)]) (N := N_p_drawn_row) (sc := defScope s_p_drawn_row) (by decide +kernel)) (fun _ _ _ _ _ => by exact (d_gname 3 (pg_name (i := 3) sc_p_drawn_row.nd rfl (by first | exact Or.inl rfl | exact Or.inr rfl)))) (fun _ _ _ _ _ => by exact d_tsnil) (fun _ _ _ _ _ => by exact (d_ifExp (d_truth (DS.w (d_meth T_Floor.cl c_p_Floor_has (hr.mono (by decide)) (d_var 0 (pv 0)) (d_acons (d_var 3 (pv 3)) (d_acons (d_var 1 (pv 1)) d_anil))))) (d_gs K_CELL (by rfl)) (d_gs K_EMPTY (by rfl))))))))))⟩
abbrev s_p_written : Stmt := top 21
theorem sc_p_written : FnScope N_p_written ["floor"] (defScope s_p_written) := ⟨rfl, rfl, rfl, by decide +kernel, rfl, by decide +kernel, by decide +kernel⟩
theorem ok_p_written {f : Addr} {fd : FuncData} (h : Has K mg "written" s_p_written ["floor"] f fd) (Z : Zs mg) {C_Floor : Addr} (T_Floor : CF_Floor K mg C_Floor) (c_p_Floor_cells : MtG P w K mg base 1 C_Floor "cells" ["self"] G_p_Floor_cells) (c_p_drawn_row : OkG P w K mg base 2 "drawn_row" ["floor", "y", "wide"] G_p_drawn_row)   : OkG P w K mg base 3 "written" ["floor"] G_p_written := by
  refine h.ok (k := 2) sc_p_written (fun cdv A outer s H E hr => ?_)
  exact ⟨_, (d_cons (d_set 1 (d_add (DS.w (d_callB (cr_max rfl) ref_max (by rfl) Z.z_max PyProof.Rows.boot_max (d_abcons (DS.w (DF.s (d_lc (own := [("x", 3), ("y", 4)]) (tgd := (gTup K 2 (gCons (gName 3) (gCons (gName 4) gNil)))) (tt := tYes) (te := (tVar 3)) (gd := (tgTup 2 (tgCons (tgName 3) (tgCons (tgName 4) tgNil)))) (ft := eYes) (fe := (eVar 3)) rfl sc_p_written.nd (d_ilist (d_meth0 T_Floor.cl c_p_Floor_cells (hr.mono (by decide)) (d_var 0 (pv 0)))) (blkOk_by (own := [("x", 3), ("y", 4)]) (N := N_p_written) (sc := defScope s_p_written) (by decide +kernel)) (fun _ _ _ _ _ => by exact (d_gtup rfl (d_gcons (d_gname 3 (pg_name (i := 3) sc_p_written.nd rfl (by first | exact Or.inl rfl | exact Or.inr rfl))) (d_gcons (d_gname 4 (pg_name (i := 4) sc_p_written.nd rfl (by first | exact Or.inl rfl | exact Or.inr rfl))) d_gnil)))) (fun _ _ _ _ _ => by exact d_tsnil) (fun _ _ _ _ _ => by exact (d_var 3 (pv 3)))))) d_abnil))) (DS.w d_int)) (fun he => ps_set (i := 1) sc_p_written.nd rfl (by first | exact Or.inl rfl | exact Or.inr rfl) he))
      (d_cons (d_set 2 (d_add (DS.w (d_callB (cr_max rfl) ref_max (by rfl) Z.z_max PyProof.Rows.boot_max (d_abcons (DS.w (DF.s (d_lc (own := [("x", 3), ("y", 4)]) (tgd := (gTup K 2 (gCons (gName 3) (gCons (gName 4) gNil)))) (tt := tYes) (te := (tVar 4)) (gd := (tgTup 2 (tgCons (tgName 3) (tgCons (tgName 4) tgNil)))) (ft := eYes) (fe := (eVar 4)) rfl sc_p_written.nd (d_ilist (d_meth0 T_Floor.cl c_p_Floor_cells (hr.mono (by decide)) (d_var 0 (pv 0)))) (blkOk_by (own := [("x", 3), ("y", 4)]) (N := N_p_written) (sc := defScope s_p_written) (by decide +kernel)) (fun _ _ _ _ _ => by exact (d_gtup rfl (d_gcons (d_gname 3 (pg_name (i := 3) sc_p_written.nd rfl (by first | exact Or.inl rfl | exact Or.inr rfl))) (d_gcons (d_gname 4 (pg_name (i := 4) sc_p_written.nd rfl (by first | exact Or.inl rfl | exact Or.inr rfl))) d_gnil)))) (fun _ _ _ _ _ => by exact d_tsnil) (fun _ _ _ _ _ => by exact (d_var 4 (pv 4)))))) d_abnil))) (DS.w d_int)) (fun he => ps_set (i := 2) sc_p_written.nd rfl (by first | exact Or.inl rfl | exact Or.inr rfl) he))
      (d_last (d_ret (d_join (DS.w d_str) (DS.w (DF.s (d_lc (own := [("y", 4)]) (tgd := (gName 4)) (tt := tYes) (te := (tCall (spG K mg (["floor", "y", "wide"] : List Str).length G_p_drawn_row) [] E0 (tCons (tVar 0) (tCons (tVar 4) (tCons (tVar 1) tNil))))) (gd := (tgName 4)) (ft := eYes) (fe := (eCall G_p_drawn_row (["floor", "y", "wide"] : List Str).length (aCons (eVar 0) (aCons (eVar 4) (aCons (eVar 1) aNil))))) rfl sc_p_written.nd (d_irange3 (by rfl) Z.z_range (d_abcons (DS.w (d_sub (DS.w (d_var 2 (pv 2))) (DS.w d_int))) (d_abcons (DS.w (d_neg (DS.w d_int))) (d_abcons (DS.w (d_neg (DS.w d_int))) d_abnil)))) (blkOk_by (own := [("y", 4)]) (N := N_p_written) (sc := defScope s_p_written) (by decide +kernel)) (fun _ _ _ _ _ => by exact (d_gname 4 (pg_name (i := 4) sc_p_written.nd rfl (by first | exact Or.inl rfl | exact Or.inr rfl)))) (fun _ _ _ _ _ => by exact d_tsnil) (fun _ _ _ _ _ => by exact (d_callO c_p_drawn_row (hr.mono (by decide)) (by rfl) (d_acons (d_var 0 (pv 0)) (d_acons (d_var 4 (pv 4)) (d_acons (d_var 1 (pv 1)) d_anil)))))))))))))⟩
abbrev s_p_is_row : Stmt := top 24
theorem sc_p_is_row : FnScope N_p_is_row ["row", "many"] (defScope s_p_is_row) := ⟨rfl, rfl, rfl, by decide +kernel, rfl, by decide +kernel, by decide +kernel⟩
theorem ok_p_is_row {f : Addr} {fd : FuncData} (h : Has K mg "is_row" s_p_is_row ["row", "many"] f fd) (Z : Zs mg)   (K_CELL : GlS mg "CELL" "#") (K_EMPTY : GlS mg "EMPTY" ".") (K_MOST_SIGNS : GlI mg "MOST_SIGNS" (12))  : OkG P w K mg base 1 "is_row" ["row", "many"] G_p_is_row := by
  refine h.ok (k := 0) sc_p_is_row (fun cdv A outer s H E hr => ?_)
  exact ⟨_, (d_last (d_ret (d_vand (DS.w (d_eq hr (DS.w (d_callB call_lenU ref_len (by rfl) Z.z_len PySem.boot_len (d_abcons (DS.w (d_var 0 (pv 0))) d_abnil))) (DS.w (d_var 1 (pv 1))))) (d_vand (DS.w (d_chain op_le op_le refO_bl0 refO_bl0 (DS.w d_int) (DS.w (d_var 1 (pv 1))) (DS.w (d_gi K_MOST_SIGNS (by rfl))))) (d_one (d_callB (cr_all rfl) ref_all (by rfl) Z.z_all PyProof.Rows.boot_all (d_abcons (DS.w (DF.s (d_lc (own := [("sign", 2)]) (tgd := (gName 2)) (tt := tYes) (te := (tOp (rInU K) (tVar 2) (tTup (tCons (tC (.str "#")) (tCons (tC (.str ".")) tNil))))) (gd := (tgName 2)) (ft := eYes) (fe := (eOp dIn (eVar 2) (eTup (aCons (eC (.str "#")) (aCons (eC (.str ".")) aNil))))) rfl sc_p_is_row.nd (d_istr (DS.w (d_var 0 (pv 0)))) (blkOk_by (own := [("sign", 2)]) (N := N_p_is_row) (sc := defScope s_p_is_row) (by decide +kernel)) (fun _ _ _ _ _ => by exact (d_gname 2 (pg_name (i := 2) sc_p_is_row.nd rfl (by first | exact Or.inl rfl | exact Or.inr rfl)))) (fun _ _ _ _ _ => by exact d_tsnil) (fun _ _ _ _ _ => by exact (d_in hr (DS.w (d_var 2 (pv 2))) (DS.w (d_tup (d_acons (d_gs K_CELL (by rfl)) (d_acons (d_gs K_EMPTY (by rfl)) d_anil))))))))) d_abnil)))))))⟩
abbrev s_p_read : Stmt := top 23
theorem sc_p_read : FnScope N_p_read ["text"] (defScope s_p_read) := ⟨rfl, rfl, rfl, by decide +kernel, rfl, by decide +kernel, by decide +kernel⟩
theorem ok_p_read {f : Addr} {fd : FuncData} (h : Has K mg "read" s_p_read ["text"] f fd) (Z : Zs mg) {C_Floor : Addr} (T_Floor : CF_Floor K mg C_Floor) (c_p_is_row : OkG P w K mg base 1 "is_row" ["row", "many"] G_p_is_row) (c_p_Floor_init : OkC P w K mg base 3 "Floor" C_Floor ["self", "cells"] G_p_Floor_init) (K_CELL : GlS mg "CELL" "#") (K_MOST_ROWS : GlI mg "MOST_ROWS" (12))  : OkG P w K mg base 5 "read" ["text"] G_p_read := by
  refine h.ok (k := 4) sc_p_read (fun cdv A outer s H E hr => ?_)
  exact ⟨_, (d_cons (d_set 1 (d_split (DS.w (d_var 0 (pv 0))) (DS.w d_str)) (fun he => ps_set (i := 1) sc_p_read.nd rfl (by first | exact Or.inl rfl | exact Or.inr rfl) he))
      (d_cons (d_for PassesOwn.never rfl (d_ienum (by rfl) Z.z_enumerate (d_var 1 (pv 1))) (d_gtup rfl (d_gcons (d_gname 2 (pg_name (i := 2) sc_p_read.nd rfl (by first | exact Or.inl rfl | exact Or.inr rfl))) (d_gcons (d_gname 3 (pg_name (i := 3) sc_p_read.nd rfl (by first | exact Or.inl rfl | exact Or.inr rfl))) d_gnil)))
      (d_last (d_if (DW.dt (d_or (d_teq hr (DS.w (d_var 2 (pv 2))) (DS.w (d_gi K_MOST_ROWS (by rfl)))) (d_or1 (d_tnot (d_truth (DS.w (d_callO c_p_is_row (hr.mono (by decide)) (by rfl) (d_acons (d_var 3 (pv 3)) (d_acons (d_callB call_lenU ref_len (by rfl) Z.z_len PySem.boot_len (d_abcons (DS.w (d_ix (DS.w (d_var 1 (pv 1))) (DS.w d_int))) d_abnil)) d_anil)))))))))
      d_never
      d_nil)))
      (d_last (d_ret (d_makeC T_Floor.cl c_p_Floor_init (hr.mono (by decide)) (by rfl) (d_acons (DF.s (d_lc2 (own := [("y", 4), ("row", 3), ("x", 5), ("sign", 6)]) (vs1 := [5, 6]) (tgd := (gTup K 2 (gCons (gName 4) (gCons (gName 3) gNil)))) (tt := tYes) (wi1 := (iEnumS (tVar 3))) (tgd1 := (gTup K 2 (gCons (gName 5) (gCons (gName 6) gNil)))) (tt1 := (tTest (tOp (rEqD K) (tVar 6) (tC (.str "#"))))) (te := (tTup (tCons (tVar 5) (tCons (tVar 4) tNil)))) (gd := (tgTup 2 (tgCons (tgName 4) (tgCons (tgName 3) tgNil)))) (ft := eYes) (fi1 := (iEnS (eVar 3))) (gd1 := (tgTup 2 (tgCons (tgName 5) (tgCons (tgName 6) tgNil)))) (ft1 := (eTest (eOp dEq (eVar 6) (eC (.str "#"))))) (fe := (eTup (aCons (eVar 5) (aCons (eVar 4) aNil)))) rfl sc_p_read.nd (d_ienum (by rfl) Z.z_enumerate (d_revL (DS.w (d_var 1 (pv 1))))) (blkOk_by (own := [("y", 4), ("row", 3), ("x", 5), ("sign", 6)]) (N := N_p_read) (sc := defScope s_p_read) (by decide +kernel)) (fun _ _ _ _ _ => by exact (d_gtup rfl (d_gcons (d_gname 4 (pg_name (i := 4) sc_p_read.nd rfl (by first | exact Or.inl rfl | exact Or.inr rfl))) (d_gcons (d_gname 3 (pg_name (i := 3) sc_p_read.nd rfl (by first | exact Or.inl rfl | exact Or.inr rfl))) d_gnil)))) (fun _ _ _ _ _ => by exact d_tsnil) (fun _ _ _ _ _ => by exact (d_ienumS (by rfl) Z.z_enumerate (DS.w (d_var 3 (pv 3))))) (fun _ _ _ _ _ => by exact (d_gtup rfl (d_gcons (d_gname 5 (pg_name (i := 5) sc_p_read.nd rfl (by first | exact Or.inl rfl | exact Or.inr rfl))) (d_gcons (d_gname 6 (pg_name (i := 6) sc_p_read.nd rfl (by first | exact Or.inl rfl | exact Or.inr rfl))) d_gnil)))) (fun _ _ _ _ _ => by exact (d_tsone (d_teq hr (DS.w (d_var 6 (pv 6))) (DS.w (d_gs K_CELL (by rfl)))))) (fun _ _ _ _ _ => by exact (d_tup (d_acons (d_var 5 (pv 5)) (d_acons (d_var 4 (pv 4)) d_anil)))))) d_anil))))))⟩
abbrev s_l_dice : Stmt := top 26
abbrev N_l_dice : List Str := ["_law_script", "_law_k", "_law_found", "_law_cell"]
theorem sc_l_dice : FnScope N_l_dice ["_law_script", "_law_k"] (defScope s_l_dice) := ⟨rfl, rfl, rfl, by decide +kernel, rfl, by decide +kernel, by decide +kernel⟩
theorem ok_dice {f : Addr} {fd : FuncData} (h : Has K mg "_law_dice" s_l_dice ["_law_script", "_law_k"] f fd) (Z : Zs mg) : FnOk P w K mg base CX0 1 f fd ["_law_script", "_law_k"] (spDice K) := by
  refine h.F.ok sc_l_dice (fun vs H Q E q => ?_) (fun cdv A outer s H vs Q E hr q => ⟨t_dice K, ?_, dice_read q⟩)
  · obtain ⟨a, ns, z, rfl, _⟩ := q
    rfl
  · exact pss_cons (ps_set (i := 2) sc_l_dice.nd rfl (Or.inl rfl) (pv 1))
      (pss_cons (ps_for PassesOwn.never rfl (pi_list (pv 0)) (pg_name (i := 3) sc_l_dice.nd rfl (Or.inl rfl)) (pss_one (ps_set (i := 2) sc_l_dice.nd rfl (Or.inl rfl) (pe_op op_mod (pe_op op_add (pe_op op_mul (pv 2) pe_int) (pe_callB call_abs (by rfl) Z.z_abs (by decide +kernel) (pa_cons (pv 3) pa_nil))) pe_int))))
      (pss_one (ps_ret (pe_op op_cat (pe_lst (pa_cons (pv 2) (pa_cons pe_int pa_nil))) (pe_lc (own := [("_law_cell", 3)]) (g := gName 3) (tt := tTest (tOp (rI0 fun i j => .bl (decide (j ≤ i))) (tVar 3) (tOp (rI CPow fun i j => .int (i ^ j.toNat)) (tC (.int 10)) (tC (.int 18))))) rfl sc_l_dice.nd (pi_list (pv 0)) (blkOk_by (own := [("_law_cell", 3)]) (N := N_l_dice) (sc := defScope s_l_dice) (by decide +kernel)) (fun _ _ _ _ _ => pg_name (i := 3) sc_l_dice.nd rfl (Or.inl rfl)) (fun _ _ _ _ _ => pts_one (pt_cmpR op_ge (pv 3) (pe_op op_pow pe_int pe_int) (nomark _))) (fun _ _ _ _ _ => pv 3))))))
abbrev s_l_off : Stmt := top 27
theorem sc_l_off : FnScope N_l_off ["_law_d", "_law_most"] (defScope s_l_off) := ⟨rfl, rfl, rfl, by decide +kernel, rfl, by decide +kernel, by decide +kernel⟩
theorem ok_l_off {f : Addr} {fd : FuncData} (h : Has K mg "_law_off" s_l_off ["_law_d", "_law_most"] f fd) (Z : Zs mg)     : OkG P w K mg base 1 "_law_off" ["_law_d", "_law_most"] G_l_off := by
  refine h.ok (k := 0) sc_l_off (fun cdv A outer s H E hr => ?_)
  exact ⟨_, (d_cons (d_if (DW.dt (d_and (d_teq hr (DS.w (d_dget 0 (pv 0))) (DS.w d_int)) (d_and1 (d_tgt (DS.w (d_dlen 0 (pv 0) (by rfl) Z.z_len)) (DS.w d_int)))))
      (d_last (d_dset 0 (pv 0) (d_dpop 0 2 (by decide) (pe_bm PySem.F.plainAttrs_list PySem.F.slot_list_pop PySem.F.type_list_pop mt_popAt (pv 0) (pa_cons pe_int pa_nil))) (ps_asg (d_dpop 0 2 (by decide) (pe_bm PySem.F.plainAttrs_list PySem.F.slot_list_pop PySem.F.type_list_pop mt_popAt (pv 0) (pa_cons pe_int pa_nil))).p (pg_sub (pv 0) pe_int set_list))))
      d_nil)
      (d_cons (d_if (d_tgt (DS.w (d_dget 0 (pv 0))) (DS.w d_int))
      (d_cons (d_set 2 (d_mod (DS.w (d_dget 0 (pv 0))) (DS.w (d_var 1 (pv 1)))) (fun he => ps_set (i := 2) sc_l_off.nd rfl (by first | exact Or.inl rfl | exact Or.inr rfl) he))
      (d_cons (d_dset 0 (pv 0) (d_fdiv (DS.w (d_dget 0 (pv 0))) (DS.w (d_var 1 (pv 1)))) (ps_asg (d_fdiv (DS.w (d_dget 0 (pv 0))) (DS.w (d_var 1 (pv 1)))).p (pg_sub (pv 0) pe_int set_list)))
      (d_last (d_ret (d_var 2 (pv 2))))))
      d_nil)
      (d_cons (d_dset 0 (pv 0) (d_mod (DS.w (d_add (DS.w (d_mul (DS.w (d_dget 0 (pv 0))) (DS.w d_int))) (DS.w d_int))) (DS.w d_int)) (ps_asg (d_mod (DS.w (d_add (DS.w (d_mul (DS.w (d_dget 0 (pv 0))) (DS.w d_int))) (DS.w d_int))) (DS.w d_int)).p (pg_sub (pv 0) pe_int set_list)))
      (d_last (d_ret (d_mod (DS.w (d_fdiv (DS.w (d_dget 0 (pv 0))) (DS.w d_int))) (DS.w (d_var 1 (pv 1)))))))))⟩
abbrev s_l_alike : Stmt := top 28
theorem sc_l_alike : FnScope N_l_alike ["_law_found", "_law_due"] (defScope s_l_alike) := ⟨rfl, rfl, rfl, by decide +kernel, rfl, by decide +kernel, by decide +kernel⟩
theorem ok_l_alike {f : Addr} {fd : FuncData} (h : Has K mg "_law_alike" s_l_alike ["_law_found", "_law_due"] f fd) (Z : Zs mg)     : ∀ n, OkG P w K mg base (n + 0) "_law_alike" ["_law_found", "_law_due"] (G_l_alike n)
  | 0 => h.zero
  | n + 1 => by
    have c_rec := ok_l_alike h Z  n
    refine (h.ok (k := n + 0) (g := g_l_alike (G_l_alike n)) sc_l_alike (fun cdv A outer s H E hr => ?_)).mono (by omega)
    exact ⟨_, (d_cons (d_if (d_tisN (DS.w (d_var 1 (pv 1))) (DS.w d_non))
      (d_last (d_ret (d_isN (DS.w (d_var 0 (pv 0))) (DS.w d_non))))
      d_nil)
      (d_cons (d_if (d_truth (DS.w (d_isi (T := "bool") (DS.w (d_var 1 (pv 1))) (by rfl) Z.z_isinstance (by rfl) Z.z_bool PyProof.Rows.boot_bool)))
      (d_last (d_ret (d_vand (DS.w (d_isi (T := "bool") (DS.w (d_var 0 (pv 0))) (by rfl) Z.z_isinstance (by rfl) Z.z_bool PyProof.Rows.boot_bool)) (d_one (d_eq hr (DS.w (d_var 0 (pv 0))) (DS.w (d_var 1 (pv 1))))))))
      d_nil)
      (d_cons (d_if (d_truth (DS.w (d_isi (T := "int") (DS.w (d_var 1 (pv 1))) (by rfl) Z.z_isinstance (by rfl) Z.z_int PyProof.Rows.boot_int)))
      (d_last (d_ret (d_vand (DS.w (d_isi (T := "int") (DS.w (d_var 0 (pv 0))) (by rfl) Z.z_isinstance (by rfl) Z.z_int PyProof.Rows.boot_int)) (d_vand (DS.w (d_vnot (DS.w (d_isi (T := "bool") (DS.w (d_var 0 (pv 0))) (by rfl) Z.z_isinstance (by rfl) Z.z_bool PyProof.Rows.boot_bool)))) (d_one (d_eq hr (DS.w (d_var 0 (pv 0))) (DS.w (d_var 1 (pv 1)))))))))
      d_nil)
      (d_cons (d_if (d_truth (DS.w (d_isi (T := "str") (DS.w (d_var 1 (pv 1))) (by rfl) Z.z_isinstance (by rfl) Z.z_str PyProof.Rows.boot_str)))
      (d_last (d_ret (d_vand (DS.w (d_isi (T := "str") (DS.w (d_var 0 (pv 0))) (by rfl) Z.z_isinstance (by rfl) Z.z_str PyProof.Rows.boot_str)) (d_one (d_eq hr (DS.w (d_var 0 (pv 0))) (DS.w (d_var 1 (pv 1))))))))
      d_nil)
      (d_cons (d_if (d_truth (DS.w (d_isi (T := "dict") (DS.w (d_var 1 (pv 1))) (by rfl) Z.z_isinstance (by rfl) Z.z_dict PyProof.Rows.boot_dict)))
      d_never
      d_nil)
      (d_cons (d_if (DW.dt (d_or (d_tne hr (DS.w (d_isi (T := "tuple") (DS.w (d_var 1 (pv 1))) (by rfl) Z.z_isinstance (by rfl) Z.z_tuple PyProof.Rows.boot_tuple)) (DS.w (d_isi (T := "tuple") (DS.w (d_var 0 (pv 0))) (by rfl) Z.z_isinstance (by rfl) Z.z_tuple PyProof.Rows.boot_tuple))) (d_or1 (d_tne hr (DS.w (d_isi (T := "list") (DS.w (d_var 1 (pv 1))) (by rfl) Z.z_isinstance (by rfl) Z.z_list PyProof.Rows.boot_list)) (DS.w (d_isi (T := "list") (DS.w (d_var 0 (pv 0))) (by rfl) Z.z_isinstance (by rfl) Z.z_list PyProof.Rows.boot_list))))))
      (d_last (d_ret d_bl))
      d_nil)
      (d_cons (d_if (d_tne hr (DS.w (d_callB call_lenU ref_len (by rfl) Z.z_len PySem.boot_len (d_abcons (DS.w (d_var 0 (pv 0))) d_abnil))) (DS.w (d_callB call_lenU ref_len (by rfl) Z.z_len PySem.boot_len (d_abcons (DS.w (d_var 1 (pv 1))) d_abnil))))
      (d_last (d_ret d_bl))
      d_nil)
      (d_last (d_ret (d_callB (cr_all rfl) ref_all (by rfl) Z.z_all PyProof.Rows.boot_all (d_abcons (DS.w (DF.s (d_lc (own := [("_law_k", 3)]) (tgd := (gName 3)) (tt := tYes) (te := (tCall (spG K mg (["_law_found", "_law_due"] : List Str).length (G_l_alike n)) [] E0 (tCons (tOp (rIx K) (tVar 0) (tVar 3)) (tCons (tOp (rIx K) (tVar 1) (tVar 3)) tNil)))) (gd := (tgName 3)) (ft := eYes) (fe := (eCall (G_l_alike n) (["_law_found", "_law_due"] : List Str).length (aCons (eOp dIx (eVar 0) (eVar 3)) (aCons (eOp dIx (eVar 1) (eVar 3)) aNil)))) rfl sc_l_alike.nd (d_irange1 (by rfl) Z.z_range (d_abcons (DS.w (d_callB call_lenU ref_len (by rfl) Z.z_len PySem.boot_len (d_abcons (DS.w (d_var 1 (pv 1))) d_abnil))) d_abnil)) (blkOk_by (own := [("_law_k", 3)]) (N := N_l_alike) (sc := defScope s_l_alike) (by decide +kernel)) (fun _ _ _ _ _ => by exact (d_gname 3 (pg_name (i := 3) sc_l_alike.nd rfl (by first | exact Or.inl rfl | exact Or.inr rfl)))) (fun _ _ _ _ _ => by exact d_tsnil) (fun _ _ _ _ _ => by exact (d_callO c_rec (hr.mono (by omega)) (by rfl) (d_acons (d_ix (DS.w (d_var 0 (pv 0))) (DS.w (d_var 3 (pv 3)))) (d_acons (d_ix (DS.w (d_var 1 (pv 1))) (DS.w (d_var 3 (pv 3)))) d_anil))))))) d_abnil)))))))))))⟩
abbrev s_l_next : Stmt := top 29
theorem sc_l_next : FnScope N_l_next ["_law_corner", "_law_letter"] (defScope s_l_next) := ⟨rfl, rfl, rfl, by decide +kernel, rfl, by decide +kernel, by decide +kernel⟩
theorem ok_l_next {f : Addr} {fd : FuncData} (h : Has K mg "_law_next" s_l_next ["_law_corner", "_law_letter"] f fd) (Z : Zs mg)     : OkG P w K mg base 1 "_law_next" ["_law_corner", "_law_letter"] G_l_next := by
  refine h.ok (k := 0) sc_l_next (fun cdv A outer s H E hr => ?_)
  exact ⟨_, (d_cons (d_set 2 (d_index rfl (DS.w d_str) (DS.w (d_var 1 (pv 1)))) (fun he => ps_set (i := 2) sc_l_next.nd rfl (by first | exact Or.inl rfl | exact Or.inr rfl) he))
      (d_last (d_ret (d_tup (d_acons (d_add (DS.w (d_ix (DS.w (d_var 0 (pv 0))) (DS.w d_int))) (DS.w (d_ix (DS.w (d_lst (d_acons d_int (d_acons d_int (d_acons (d_neg (DS.w d_int)) (d_acons d_int d_anil)))))) (DS.w (d_var 2 (pv 2)))))) (d_acons (d_add (DS.w (d_ix (DS.w (d_var 0 (pv 0))) (DS.w d_int))) (DS.w (d_ix (DS.w (d_lst (d_acons d_int (d_acons d_int (d_acons d_int (d_acons (d_neg (DS.w d_int)) d_anil)))))) (DS.w (d_var 2 (pv 2)))))) d_anil))))))⟩
abbrev s_l_beside : Stmt := top 30
theorem sc_l_beside : FnScope N_l_beside ["_law_corner", "_law_letter"] (defScope s_l_beside) := ⟨rfl, rfl, rfl, by decide +kernel, rfl, by decide +kernel, by decide +kernel⟩
theorem ok_l_beside {f : Addr} {fd : FuncData} (h : Has K mg "_law_beside" s_l_beside ["_law_corner", "_law_letter"] f fd) (Z : Zs mg)     : OkG P w K mg base 1 "_law_beside" ["_law_corner", "_law_letter"] G_l_beside := by
  refine h.ok (k := 0) sc_l_beside (fun cdv A outer s H E hr => ?_)
  exact ⟨_, (d_cons (d_asg (d_var 0 (pv 0)) (d_gtup rfl (d_gcons (d_gname 2 (pg_name (i := 2) sc_l_beside.nd rfl (by first | exact Or.inl rfl | exact Or.inr rfl))) (d_gcons (d_gname 3 (pg_name (i := 3) sc_l_beside.nd rfl (by first | exact Or.inl rfl | exact Or.inr rfl))) d_gnil))))
      (d_cons (d_set 4 (d_index rfl (DS.w d_str) (DS.w (d_var 1 (pv 1)))) (fun he => ps_set (i := 4) sc_l_beside.nd rfl (by first | exact Or.inl rfl | exact Or.inr rfl) he))
      (d_cons (d_set 5 (d_ix (DS.w (d_lst (d_acons (d_tup (d_acons (d_var 2 (pv 2)) (d_acons (d_var 3 (pv 3)) d_anil))) (d_acons (d_tup (d_acons (d_sub (DS.w (d_var 2 (pv 2))) (DS.w d_int)) (d_acons (d_var 3 (pv 3)) d_anil))) (d_acons (d_tup (d_acons (d_sub (DS.w (d_var 2 (pv 2))) (DS.w d_int)) (d_acons (d_sub (DS.w (d_var 3 (pv 3))) (DS.w d_int)) d_anil))) (d_acons (d_tup (d_acons (d_var 2 (pv 2)) (d_acons (d_sub (DS.w (d_var 3 (pv 3))) (DS.w d_int)) d_anil))) d_anil)))))) (DS.w (d_var 4 (pv 4)))) (fun he => ps_set (i := 5) sc_l_beside.nd rfl (by first | exact Or.inl rfl | exact Or.inr rfl) he))
      (d_cons (d_set 6 (d_ix (DS.w (d_lst (d_acons (d_tup (d_acons (d_var 2 (pv 2)) (d_acons (d_sub (DS.w (d_var 3 (pv 3))) (DS.w d_int)) d_anil))) (d_acons (d_tup (d_acons (d_var 2 (pv 2)) (d_acons (d_var 3 (pv 3)) d_anil))) (d_acons (d_tup (d_acons (d_sub (DS.w (d_var 2 (pv 2))) (DS.w d_int)) (d_acons (d_var 3 (pv 3)) d_anil))) (d_acons (d_tup (d_acons (d_sub (DS.w (d_var 2 (pv 2))) (DS.w d_int)) (d_acons (d_sub (DS.w (d_var 3 (pv 3))) (DS.w d_int)) d_anil))) d_anil)))))) (DS.w (d_var 4 (pv 4)))) (fun he => ps_set (i := 6) sc_l_beside.nd rfl (by first | exact Or.inl rfl | exact Or.inr rfl) he))
      (d_last (d_ret (d_tup (d_acons (d_var 5 (pv 5)) (d_acons (d_var 6 (pv 6)) d_anil)))))))))⟩
abbrev s_l_begin : Stmt := top 31
theorem sc_l_begin : FnScope N_l_begin ["_law_cells_here"] (defScope s_l_begin) := ⟨rfl, rfl, rfl, by decide +kernel, rfl, by decide +kernel, by decide +kernel⟩
theorem ok_l_begin {f : Addr} {fd : FuncData} (h : Has K mg "_law_begin" s_l_begin ["_law_cells_here"] f fd) (Z : Zs mg)     : OkG P w K mg base 1 "_law_begin" ["_law_cells_here"] G_l_begin := by
  refine h.ok (k := 0) sc_l_begin (fun cdv A outer s H E hr => ?_)
  exact ⟨_, (d_cons (d_set 1 (d_callB (cr_min rfl) ref_min (by rfl) Z.z_min PyProof.Rows.boot_min (d_abcons (DS.w (DF.s (d_lc (own := [("_law_cell", 2)]) (tgd := (gName 2)) (tt := tYes) (te := (tOp (rIx K) (tVar 2) (tC (.int 1)))) (gd := (tgName 2)) (ft := eYes) (fe := (eOp dIx (eVar 2) (eC (.int 1)))) rfl sc_l_begin.nd (d_ilist (d_var 0 (pv 0))) (blkOk_by (own := [("_law_cell", 2)]) (N := N_l_begin) (sc := defScope s_l_begin) (by decide +kernel)) (fun _ _ _ _ _ => by exact (d_gname 2 (pg_name (i := 2) sc_l_begin.nd rfl (by first | exact Or.inl rfl | exact Or.inr rfl)))) (fun _ _ _ _ _ => by exact d_tsnil) (fun _ _ _ _ _ => by exact (d_ix (DS.w (d_var 2 (pv 2))) (DS.w d_int)))))) d_abnil)) (fun he => ps_set (i := 1) sc_l_begin.nd rfl (by first | exact Or.inl rfl | exact Or.inr rfl) he))
      (d_last (d_ret (d_tup (d_acons (d_callB (cr_min rfl) ref_min (by rfl) Z.z_min PyProof.Rows.boot_min (d_abcons (DS.w (DF.s (d_lc (own := [("_law_cell", 2)]) (tgd := (gName 2)) (tt := (tTest (tOp (rEqD K) (tOp (rIx K) (tVar 2) (tC (.int 1))) (tVar 1)))) (te := (tOp (rIx K) (tVar 2) (tC (.int 0)))) (gd := (tgName 2)) (ft := (eTest (eOp dEq (eOp dIx (eVar 2) (eC (.int 1))) (eVar 1)))) (fe := (eOp dIx (eVar 2) (eC (.int 0)))) rfl sc_l_begin.nd (d_ilist (d_var 0 (pv 0))) (blkOk_by (own := [("_law_cell", 2)]) (N := N_l_begin) (sc := defScope s_l_begin) (by decide +kernel)) (fun _ _ _ _ _ => by exact (d_gname 2 (pg_name (i := 2) sc_l_begin.nd rfl (by first | exact Or.inl rfl | exact Or.inr rfl)))) (fun _ _ _ _ _ => by exact (d_tsone (d_teq hr (DS.w (d_ix (DS.w (d_var 2 (pv 2))) (DS.w d_int))) (DS.w (d_var 1 (pv 1)))))) (fun _ _ _ _ _ => by exact (d_ix (DS.w (d_var 2 (pv 2))) (DS.w d_int)))))) d_abnil)) (d_acons (d_var 1 (pv 1)) d_anil))))))⟩
abbrev s_l_rim : Stmt := top 32
theorem sc_l_rim : FnScope N_l_rim ["_law_cells_here"] (defScope s_l_rim) := ⟨rfl, rfl, rfl, by decide +kernel, rfl, by decide +kernel, by decide +kernel⟩
theorem ok_l_rim {f : Addr} {fd : FuncData} (h : Has K mg "_law_rim" s_l_rim ["_law_cells_here"] f fd) (Z : Zs mg)  (c_l_begin : OkG P w K mg base 1 "_law_begin" ["_law_cells_here"] G_l_begin) (c_l_beside : OkG P w K mg base 1 "_law_beside" ["_law_corner", "_law_letter"] G_l_beside) (c_l_next : OkG P w K mg base 1 "_law_next" ["_law_corner", "_law_letter"] G_l_next)   : OkG P w K mg base 2 "_law_rim" ["_law_cells_here"] G_l_rim := by
  refine h.ok (k := 1) sc_l_rim (fun cdv A outer s H E hr => ?_)
  exact ⟨_, (d_cons (d_set 1 d_int (fun he => ps_set (i := 1) sc_l_rim.nd rfl (by first | exact Or.inl rfl | exact Or.inr rfl) he))
      (d_cons (d_for PassesOwn.never rfl (d_ilist (d_var 0 (pv 0))) (d_gname 2 (pg_name (i := 2) sc_l_rim.nd rfl (by first | exact Or.inl rfl | exact Or.inr rfl)))
      (d_cons (d_set 3 (d_lst (d_acons (d_tup (d_acons (d_add (DS.w (d_ix (DS.w (d_var 2 (pv 2))) (DS.w d_int))) (DS.w d_int)) (d_acons (d_ix (DS.w (d_var 2 (pv 2))) (DS.w d_int)) d_anil))) (d_acons (d_tup (d_acons (d_sub (DS.w (d_ix (DS.w (d_var 2 (pv 2))) (DS.w d_int))) (DS.w d_int)) (d_acons (d_ix (DS.w (d_var 2 (pv 2))) (DS.w d_int)) d_anil))) (d_acons (d_tup (d_acons (d_ix (DS.w (d_var 2 (pv 2))) (DS.w d_int)) (d_acons (d_add (DS.w (d_ix (DS.w (d_var 2 (pv 2))) (DS.w d_int))) (DS.w d_int)) d_anil))) (d_acons (d_tup (d_acons (d_ix (DS.w (d_var 2 (pv 2))) (DS.w d_int)) (d_acons (d_sub (DS.w (d_ix (DS.w (d_var 2 (pv 2))) (DS.w d_int))) (DS.w d_int)) d_anil))) d_anil))))) (fun he => ps_set (i := 3) sc_l_rim.nd rfl (by first | exact Or.inl rfl | exact Or.inr rfl) he))
      (d_last (d_set 1 (d_add (DS.w (d_var 1 (pv 1))) (DS.w (d_callB call_lenU ref_len (by rfl) Z.z_len PySem.boot_len (d_abcons (DS.w (DF.s (d_lc (own := [("_law_one", 11)]) (tgd := (gName 11)) (tt := (tTest (tOp (rNotInU K) (tVar 11) (tVar 0)))) (te := (tVar 11)) (gd := (tgName 11)) (ft := (eTest (eOp dNotIn (eVar 11) (eVar 0)))) (fe := (eVar 11)) rfl sc_l_rim.nd (d_ilist (d_var 3 (pv 3))) (blkOk_by (own := [("_law_one", 11)]) (N := N_l_rim) (sc := defScope s_l_rim) (by decide +kernel)) (fun _ _ _ _ _ => by exact (d_gname 11 (pg_name (i := 11) sc_l_rim.nd rfl (by first | exact Or.inl rfl | exact Or.inr rfl)))) (fun _ _ _ _ _ => by exact (d_tsone (d_tnotIn hr (DS.w (d_var 11 (pv 11))) (DS.w (d_var 0 (pv 0)))))) (fun _ _ _ _ _ => by exact (d_var 11 (pv 11)))))) d_abnil)))) (fun he => ps_set (i := 1) sc_l_rim.nd rfl (by first | exact Or.inl rfl | exact Or.inr rfl) he)))))
      (d_cons (d_set 4 (d_callO c_l_begin (hr.mono (by decide)) (by rfl) (d_acons (d_var 0 (pv 0)) d_anil)) (fun he => ps_set (i := 4) sc_l_rim.nd rfl (by first | exact Or.inl rfl | exact Or.inr rfl) he))
      (d_cons (d_set 5 d_str (fun he => ps_set (i := 5) sc_l_rim.nd rfl (by first | exact Or.inl rfl | exact Or.inr rfl) he))
      (d_cons (d_own 6 (d_lstF d_anil) (fun he => ps_set (i := 6) sc_l_rim.nd rfl (by first | exact Or.inl rfl | exact Or.inr rfl) he))
      (d_cons (d_while 100000 PassesOwn.never (DW.dt (d_and (d_tnotIn hr (DS.w (d_var 4 (pv 4))) (d_varB 6 (pv 6))) (d_and1 (d_tlt (DS.w (d_callB call_lenU ref_len (by rfl) Z.z_len PySem.boot_len (d_abcons (DS.w (d_var 5 (pv 5))) d_abnil))) (DS.w (d_var 1 (pv 1)))))))
      (d_cons (d_append 6 (d_var 4 (pv 4)) (fun ha => ps_expr (pe_bm PySem.F.plainAttrs_list PySem.F.slot_list_append PySem.F.type_list_append mt_append (pv 6) ha)))
      (d_cons (d_own 7 (d_lstF d_anil) (fun he => ps_set (i := 7) sc_l_rim.nd rfl (by first | exact Or.inl rfl | exact Or.inr rfl) he))
      (d_cons (d_for PassesOwn.never rfl (d_istr (DS.w d_str)) (d_gname 8 (pg_name (i := 8) sc_l_rim.nd rfl (by first | exact Or.inl rfl | exact Or.inr rfl)))
      (d_cons (d_asg (d_callO c_l_beside (hr.mono (by decide)) (by rfl) (d_acons (d_var 4 (pv 4)) (d_acons (d_var 8 (pv 8)) d_anil))) (d_gtup rfl (d_gcons (d_gname 9 (pg_name (i := 9) sc_l_rim.nd rfl (by first | exact Or.inl rfl | exact Or.inr rfl))) (d_gcons (d_gname 10 (pg_name (i := 10) sc_l_rim.nd rfl (by first | exact Or.inl rfl | exact Or.inr rfl))) d_gnil))))
      (d_last (d_if (DW.dt (d_and (d_tin hr (DS.w (d_var 9 (pv 9))) (DS.w (d_var 0 (pv 0)))) (d_and1 (d_tnotIn hr (DS.w (d_var 10 (pv 10))) (DS.w (d_var 0 (pv 0)))))))
      (d_last (d_append 7 (d_var 8 (pv 8)) (fun ha => ps_expr (pe_bm PySem.F.plainAttrs_list PySem.F.slot_list_append PySem.F.type_list_append mt_append (pv 7) ha))))
      d_nil))))
      (d_cons (d_if (d_tne hr (DS.w (d_callB call_lenU ref_len (by rfl) Z.z_len PySem.boot_len (d_abcons (d_varB 7 (pv 7)) d_abnil))) (DS.w d_int))
      (d_last (d_ret d_non))
      d_nil)
      (d_cons (d_set 5 (d_add (DS.w (d_var 5 (pv 5))) (DS.w (d_ix (d_varB 7 (pv 7)) (DS.w d_int)))) (fun he => ps_set (i := 5) sc_l_rim.nd rfl (by first | exact Or.inl rfl | exact Or.inr rfl) he))
      (d_last (d_set 4 (d_callO c_l_next (hr.mono (by decide)) (by rfl) (d_acons (d_var 4 (pv 4)) (d_acons (d_ix (d_varB 7 (pv 7)) (DS.w d_int)) d_anil))) (fun he => ps_set (i := 4) sc_l_rim.nd rfl (by first | exact Or.inl rfl | exact Or.inr rfl) he)))))))))
      (d_cons (d_if (DW.dt (d_or (d_tne hr (DS.w (d_var 4 (pv 4))) (DS.w (d_ix (d_varB 6 (pv 6)) (DS.w d_int)))) (d_or1 (d_tne hr (DS.w (d_callB call_lenU ref_len (by rfl) Z.z_len PySem.boot_len (d_abcons (DS.w (d_var 5 (pv 5))) d_abnil))) (DS.w (d_var 1 (pv 1)))))))
      (d_last (d_ret d_non))
      d_nil)
      (d_last (d_ret (d_var 5 (pv 5)))))))))))⟩
abbrev s_l_grown : Stmt := top 33
theorem sc_l_grown : FnScope N_l_grown ["_law_d", "_law_most", "_law_place"] (defScope s_l_grown) := ⟨rfl, rfl, rfl, by decide +kernel, rfl, by decide +kernel, by decide +kernel⟩
theorem ok_l_grown {f : Addr} {fd : FuncData} (h : Has K mg "_law_grown" s_l_grown ["_law_d", "_law_most", "_law_place"] f fd) (Z : Zs mg)  (c_l_off : OkG P w K mg base 1 "_law_off" ["_law_d", "_law_most"] G_l_off) (c_l_rim : OkG P w K mg base 2 "_law_rim" ["_law_cells_here"] G_l_rim)   : OkG P w K mg base 3 "_law_grown" ["_law_d", "_law_most", "_law_place"] G_l_grown := by
  refine h.ok (k := 2) sc_l_grown (fun cdv A outer s H E hr => ?_)
  exact ⟨_, (d_cons (d_own 3 (d_lstF (d_acons (d_var 2 (pv 2)) d_anil)) (fun he => ps_set (i := 3) sc_l_grown.nd rfl (by first | exact Or.inl rfl | exact Or.inr rfl) he))
      (d_cons (d_for PassesOwn.never rfl (d_irange1 (by rfl) Z.z_range (d_abcons (DS.w (d_callO c_l_off (hr.mono (by decide)) (by rfl) (d_acons (d_var 0 (pv 0)) (d_acons (d_var 1 (pv 1)) d_anil)))) d_abnil)) (d_gname 4 (pg_name (i := 4) sc_l_grown.nd rfl (by first | exact Or.inl rfl | exact Or.inr rfl)))
      (d_cons (d_asg (d_ix (d_varB 3 (pv 3)) (DS.w (d_callO c_l_off (hr.mono (by decide)) (by rfl) (d_acons (d_var 0 (pv 0)) (d_acons (d_callB call_lenU ref_len (by rfl) Z.z_len PySem.boot_len (d_abcons (d_varB 3 (pv 3)) d_abnil)) d_anil))))) (d_gtup rfl (d_gcons (d_gname 5 (pg_name (i := 5) sc_l_grown.nd rfl (by first | exact Or.inl rfl | exact Or.inr rfl))) (d_gcons (d_gname 6 (pg_name (i := 6) sc_l_grown.nd rfl (by first | exact Or.inl rfl | exact Or.inr rfl))) d_gnil))))
      (d_cons (d_set 7 (d_ix (DS.w (d_lst (d_acons (d_tup (d_acons (d_add (DS.w (d_var 5 (pv 5))) (DS.w d_int)) (d_acons (d_var 6 (pv 6)) d_anil))) (d_acons (d_tup (d_acons (d_var 5 (pv 5)) (d_acons (d_add (DS.w (d_var 6 (pv 6))) (DS.w d_int)) d_anil))) (d_acons (d_tup (d_acons (d_sub (DS.w (d_var 5 (pv 5))) (DS.w d_int)) (d_acons (d_var 6 (pv 6)) d_anil))) (d_acons (d_tup (d_acons (d_var 5 (pv 5)) (d_acons (d_sub (DS.w (d_var 6 (pv 6))) (DS.w d_int)) d_anil))) d_anil)))))) (DS.w (d_callO c_l_off (hr.mono (by decide)) (by rfl) (d_acons (d_var 0 (pv 0)) (d_acons d_int d_anil))))) (fun he => ps_set (i := 7) sc_l_grown.nd rfl (by first | exact Or.inl rfl | exact Or.inr rfl) he))
      (d_last (d_if (DW.dt (d_and (d_tnotIn hr (DS.w (d_var 7 (pv 7))) (d_varB 3 (pv 3))) (d_and (d_tchain op_le op_lt refO_bl0 refO_bl0 (DS.w d_int) (DS.w (d_ix (DS.w (d_var 7 (pv 7))) (DS.w d_int))) (DS.w d_int)) (d_and (d_tchain op_le op_lt refO_bl0 refO_bl0 (DS.w d_int) (DS.w (d_ix (DS.w (d_var 7 (pv 7))) (DS.w d_int))) (DS.w d_int)) (d_and1 (d_tnotN (DS.w (d_callO c_l_rim (hr.mono (by decide)) (by rfl) (d_acons (d_add (d_varB 3 (pv 3)) (DS.w (d_lst (d_acons (d_var 7 (pv 7)) d_anil)))) d_anil))) (DS.w d_non)))))))
      (d_last (d_append 3 (d_var 7 (pv 7)) (fun ha => ps_expr (pe_bm PySem.F.plainAttrs_list PySem.F.slot_list_append PySem.F.type_list_append mt_append (pv 3) ha))))
      d_nil)))))
      (d_last (d_retOwn 3 (pv 3)))))⟩
abbrev s_l_block : Stmt := top 34
theorem sc_l_block : FnScope N_l_block ["_law_x", "_law_y", "_law_wide", "_law_high"] (defScope s_l_block) := ⟨rfl, rfl, rfl, by decide +kernel, rfl, by decide +kernel, by decide +kernel⟩
theorem ok_l_block {f : Addr} {fd : FuncData} (h : Has K mg "_law_block" s_l_block ["_law_x", "_law_y", "_law_wide", "_law_high"] f fd) (Z : Zs mg)     : OkG P w K mg base 1 "_law_block" ["_law_x", "_law_y", "_law_wide", "_law_high"] G_l_block := by
  refine h.ok (k := 0) sc_l_block (fun cdv A outer s H E hr => ?_)
  exact ⟨_, (d_cons (d_set 4 (d_lst d_anil) (fun he => ps_set (i := 4) sc_l_block.nd rfl (by first | exact Or.inl rfl | exact Or.inr rfl) he))
      (d_cons (d_for PassesOwn.never rfl (d_irange1 (by rfl) Z.z_range (d_abcons (DS.w (d_var 2 (pv 2))) d_abnil)) (d_gname 5 (pg_name (i := 5) sc_l_block.nd rfl (by first | exact Or.inl rfl | exact Or.inr rfl)))
      (d_last (d_set 4 (d_add (DS.w (d_var 4 (pv 4))) (DS.w (DF.s (d_lc (own := [("_law_j", 6)]) (tgd := (gName 6)) (tt := tYes) (te := (tTup (tCons (tOp rAddU (tVar 0) (tVar 5)) (tCons (tOp rAddU (tVar 1) (tVar 6)) tNil)))) (gd := (tgName 6)) (ft := eYes) (fe := (eTup (aCons (eOp dAdd (eVar 0) (eVar 5)) (aCons (eOp dAdd (eVar 1) (eVar 6)) aNil)))) rfl sc_l_block.nd (d_irange1 (by rfl) Z.z_range (d_abcons (DS.w (d_var 3 (pv 3))) d_abnil)) (blkOk_by (own := [("_law_j", 6)]) (N := N_l_block) (sc := defScope s_l_block) (by decide +kernel)) (fun _ _ _ _ _ => by exact (d_gname 6 (pg_name (i := 6) sc_l_block.nd rfl (by first | exact Or.inl rfl | exact Or.inr rfl)))) (fun _ _ _ _ _ => by exact d_tsnil) (fun _ _ _ _ _ => by exact (d_tup (d_acons (d_add (DS.w (d_var 0 (pv 0))) (DS.w (d_var 5 (pv 5)))) (d_acons (d_add (DS.w (d_var 1 (pv 1))) (DS.w (d_var 6 (pv 6)))) d_anil)))))))) (fun he => ps_set (i := 4) sc_l_block.nd rfl (by first | exact Or.inl rfl | exact Or.inr rfl) he))))
      (d_last (d_ret (d_var 4 (pv 4))))))⟩
abbrev s_l_shape : Stmt := top 35
theorem sc_l_shape : FnScope N_l_shape ["_law_d", "_law_most"] (defScope s_l_shape) := ⟨rfl, rfl, rfl, by decide +kernel, rfl, by decide +kernel, by decide +kernel⟩
theorem ok_l_shape {f : Addr} {fd : FuncData} (h : Has K mg "_law_shape" s_l_shape ["_law_d", "_law_most"] f fd) (Z : Zs mg)  (c_l_off : OkG P w K mg base 1 "_law_off" ["_law_d", "_law_most"] G_l_off) (c_l_grown : OkG P w K mg base 3 "_law_grown" ["_law_d", "_law_most", "_law_place"] G_l_grown) (c_l_block : OkG P w K mg base 1 "_law_block" ["_law_x", "_law_y", "_law_wide", "_law_high"] G_l_block) (c_l_rim : OkG P w K mg base 2 "_law_rim" ["_law_cells_here"] G_l_rim)   : OkG P w K mg base 4 "_law_shape" ["_law_d", "_law_most"] G_l_shape := by
  refine h.ok (k := 3) sc_l_shape (fun cdv A outer s H E hr => ?_)
  exact ⟨_, (d_cons (d_set 2 (d_callO c_l_off (hr.mono (by decide)) (by rfl) (d_acons (d_var 0 (pv 0)) (d_acons d_int d_anil))) (fun he => ps_set (i := 2) sc_l_shape.nd rfl (by first | exact Or.inl rfl | exact Or.inr rfl) he))
      (d_cons (d_set 3 (d_tup (d_acons (d_callO c_l_off (hr.mono (by decide)) (by rfl) (d_acons (d_var 0 (pv 0)) (d_acons d_int d_anil))) (d_acons (d_callO c_l_off (hr.mono (by decide)) (by rfl) (d_acons (d_var 0 (pv 0)) (d_acons d_int d_anil))) d_anil))) (fun he => ps_set (i := 3) sc_l_shape.nd rfl (by first | exact Or.inl rfl | exact Or.inr rfl) he))
      (d_cons (d_if (d_tlt (DS.w (d_var 2 (pv 2))) (DS.w d_int))
      (d_last (d_ret (d_callO c_l_grown (hr.mono (by decide)) (by rfl) (d_acons (d_var 0 (pv 0)) (d_acons (d_var 1 (pv 1)) (d_acons (d_var 3 (pv 3)) d_anil))))))
      d_nil)
      (d_cons (d_set 4 (d_add (DS.w d_int) (DS.w (d_callO c_l_off (hr.mono (by decide)) (by rfl) (d_acons (d_var 0 (pv 0)) (d_acons d_int d_anil))))) (fun he => ps_set (i := 4) sc_l_shape.nd rfl (by first | exact Or.inl rfl | exact Or.inr rfl) he))
      (d_cons (d_set 5 (d_add (DS.w d_int) (DS.w (d_callO c_l_off (hr.mono (by decide)) (by rfl) (d_acons (d_var 0 (pv 0)) (d_acons (d_callB (call_max2 rfl) ref_max2 (by rfl) Z.z_max PyProof.Rows.boot_max (d_abcons (DS.w d_int) (d_abcons (DS.w (d_callB (call_min2 rfl) ref_min2 (by rfl) Z.z_min PyProof.Rows.boot_min (d_abcons (DS.w d_int) (d_abcons (DS.w (d_fdiv (DS.w (d_var 1 (pv 1))) (DS.w (d_var 4 (pv 4))))) d_abnil)))) d_abnil))) d_anil))))) (fun he => ps_set (i := 5) sc_l_shape.nd rfl (by first | exact Or.inl rfl | exact Or.inr rfl) he))
      (d_cons (d_set 6 (d_callO c_l_block (hr.mono (by decide)) (by rfl) (d_acons (d_ix (DS.w (d_var 3 (pv 3))) (DS.w d_int)) (d_acons (d_ix (DS.w (d_var 3 (pv 3))) (DS.w d_int)) (d_acons (d_var 4 (pv 4)) (d_acons (d_var 5 (pv 5)) d_anil))))) (fun he => ps_set (i := 6) sc_l_shape.nd rfl (by first | exact Or.inl rfl | exact Or.inr rfl) he))
      (d_cons (d_if (DW.dt (d_and (d_teq hr (DS.w (d_var 2 (pv 2))) (DS.w d_int)) (d_and (d_tgt (DS.w (d_var 4 (pv 4))) (DS.w d_int)) (d_and1 (d_tgt (DS.w (d_var 5 (pv 5))) (DS.w d_int))))))
      (d_cons (d_set 7 (d_lst (d_acons (d_var 3 (pv 3)) (d_acons (d_tup (d_acons (d_sub (DS.w (d_add (DS.w (d_ix (DS.w (d_var 3 (pv 3))) (DS.w d_int))) (DS.w (d_var 4 (pv 4))))) (DS.w d_int)) (d_acons (d_sub (DS.w (d_add (DS.w (d_ix (DS.w (d_var 3 (pv 3))) (DS.w d_int))) (DS.w (d_var 5 (pv 5))))) (DS.w d_int)) d_anil))) (d_acons (d_tup (d_acons (d_ix (DS.w (d_var 3 (pv 3))) (DS.w d_int)) (d_acons (d_sub (DS.w (d_add (DS.w (d_ix (DS.w (d_var 3 (pv 3))) (DS.w d_int))) (DS.w (d_var 5 (pv 5))))) (DS.w d_int)) d_anil))) d_anil)))) (fun he => ps_set (i := 7) sc_l_shape.nd rfl (by first | exact Or.inl rfl | exact Or.inr rfl) he))
      (d_cons (d_setLc (i := 8) (own := [("_law_cell", 10)]) (tgd := (gName 10)) (tt := (tTest (tOp (rNotInU K) (tVar 10) (tSl (r_sl K) (tVar 7) (tPart (tCall (spG K mg (["_law_d", "_law_most"] : List Str).length G_l_off) [] E0 (tCons (tVar 0) (tCons (tC (.int 2)) tNil)))) (tPart (tOp rAddU (tC (.int 1)) (tCall (spG K mg (["_law_d", "_law_most"] : List Str).length G_l_off) [] E0 (tCons (tVar 0) (tCons (tC (.int 3)) tNil))))))))) (te := (tVar 10)) (gd := (tgName 10)) (ft := (eTest (eOp dNotIn (eVar 10) (eSl (eVar 7) (oSome (eCall G_l_off (["_law_d", "_law_most"] : List Str).length (aCons (eVar 0) (aCons (eC (.int 2)) aNil)))) (oSome (eOp dAdd (eC (.int 1)) (eCall G_l_off (["_law_d", "_law_most"] : List Str).length (aCons (eVar 0) (aCons (eC (.int 3)) aNil))))))))) (fe := (eVar 10)) rfl sc_l_shape.nd rfl rfl (sw_true rfl rfl rfl (by decide +kernel)) (d_ilist (d_var 6 (pv 6))) (blkOk_by (own := [("_law_cell", 10)]) (N := N_l_shape) (sc := defScope s_l_shape) (by decide +kernel)) (fun _ _ _ _ _ => by exact (d_gname 10 (pg_name (i := 10) sc_l_shape.nd rfl (by first | exact Or.inl rfl | exact Or.inr rfl)))) (fun _ _ _ _ _ => by exact (d_tsone (d_tnotIn hr (DS.w (d_var 10 (pv 10))) (DS.w (d_sl (DS.w (d_var 7 (pv 7))) (d_osome (DS.w (d_callO c_l_off (hr.mono (by decide)) (by rfl) (d_acons (d_var 0 (pv 0)) (d_acons d_int d_anil))))) (d_osome (DS.w (d_add (DS.w d_int) (DS.w (d_callO c_l_off (hr.mono (by decide)) (by rfl) (d_acons (d_var 0 (pv 0)) (d_acons d_int d_anil)))))))))))) (fun _ _ _ _ _ => by exact (d_var 10 (pv 10))))
      (d_last (d_if (DW.dt (d_and (d_tne hr (DS.w (d_var 8 (pv 8))) (DS.w (d_lst d_anil))) (d_and1 (d_tnotN (DS.w (d_callO c_l_rim (hr.mono (by decide)) (by rfl) (d_acons (d_var 8 (pv 8)) d_anil))) (DS.w d_non)))))
      (d_last (d_set 6 (d_var 8 (pv 8)) (fun he => ps_set (i := 6) sc_l_shape.nd rfl (by first | exact Or.inl rfl | exact Or.inr rfl) he)))
      d_nil))))
      d_nil)
      (d_cons (d_if (d_teq hr (DS.w (d_var 2 (pv 2))) (DS.w d_int))
      (d_cons (d_set 9 (d_add (DS.w (d_var 6 (pv 6))) (DS.w (d_lst (d_acons (d_tup (d_acons (d_add (DS.w (d_ix (DS.w (d_var 3 (pv 3))) (DS.w d_int))) (DS.w (d_var 4 (pv 4)))) (d_acons (d_add (DS.w (d_ix (DS.w (d_var 3 (pv 3))) (DS.w d_int))) (DS.w (d_callO c_l_off (hr.mono (by decide)) (by rfl) (d_acons (d_var 0 (pv 0)) (d_acons (d_var 5 (pv 5)) d_anil))))) d_anil))) d_anil)))) (fun he => ps_set (i := 9) sc_l_shape.nd rfl (by first | exact Or.inl rfl | exact Or.inr rfl) he))
      (d_last (d_if (d_tle (DS.w (d_callB call_lenU ref_len (by rfl) Z.z_len PySem.boot_len (d_abcons (DS.w (d_var 9 (pv 9))) d_abnil))) (DS.w (d_var 1 (pv 1))))
      (d_last (d_set 6 (d_var 9 (pv 9)) (fun he => ps_set (i := 6) sc_l_shape.nd rfl (by first | exact Or.inl rfl | exact Or.inr rfl) he)))
      d_nil)))
      d_nil)
      (d_last (d_ret (d_var 6 (pv 6))))))))))))⟩
abbrev s_l_cells : Stmt := top 36
theorem sc_l_cells : FnScope N_l_cells ["_law_d", "_law_most"] (defScope s_l_cells) := ⟨rfl, rfl, rfl, by decide +kernel, rfl, by decide +kernel, by decide +kernel⟩
theorem ok_l_cells {f : Addr} {fd : FuncData} (h : Has K mg "_law_cells" s_l_cells ["_law_d", "_law_most"] f fd) (Z : Zs mg)  (c_l_shape : OkG P w K mg base 4 "_law_shape" ["_law_d", "_law_most"] G_l_shape) (c_l_off : OkG P w K mg base 1 "_law_off" ["_law_d", "_law_most"] G_l_off)   : OkG P w K mg base 5 "_law_cells" ["_law_d", "_law_most"] G_l_cells := by
  refine h.ok (k := 4) sc_l_cells (fun cdv A outer s H E hr => ?_)
  exact ⟨_, (d_cons (d_set 2 (d_callO c_l_shape (hr.mono (by decide)) (by rfl) (d_acons (d_var 0 (pv 0)) (d_acons (d_var 1 (pv 1)) d_anil))) (fun he => ps_set (i := 2) sc_l_cells.nd rfl (by first | exact Or.inl rfl | exact Or.inr rfl) he))
      (d_cons (d_if (d_teq hr (DS.w (d_callO c_l_off (hr.mono (by decide)) (by rfl) (d_acons (d_var 0 (pv 0)) (d_acons d_int d_anil)))) (DS.w d_int))
      (d_cons (d_asg (d_tup (d_acons (d_sub (DS.w d_int) (DS.w (d_callB (cr_max rfl) ref_max (by rfl) Z.z_max PyProof.Rows.boot_max (d_abcons (DS.w (DF.s (d_lc (own := [("_law_cell", 5)]) (tgd := (gName 5)) (tt := tYes) (te := (tOp (rIx K) (tVar 5) (tC (.int 0)))) (gd := (tgName 5)) (ft := eYes) (fe := (eOp dIx (eVar 5) (eC (.int 0)))) rfl sc_l_cells.nd (d_ilist (d_var 2 (pv 2))) (blkOk_by (own := [("_law_cell", 5)]) (N := N_l_cells) (sc := defScope s_l_cells) (by decide +kernel)) (fun _ _ _ _ _ => by exact (d_gname 5 (pg_name (i := 5) sc_l_cells.nd rfl (by first | exact Or.inl rfl | exact Or.inr rfl)))) (fun _ _ _ _ _ => by exact d_tsnil) (fun _ _ _ _ _ => by exact (d_ix (DS.w (d_var 5 (pv 5))) (DS.w d_int)))))) d_abnil)))) (d_acons (d_sub (DS.w d_int) (DS.w (d_callB (cr_max rfl) ref_max (by rfl) Z.z_max PyProof.Rows.boot_max (d_abcons (DS.w (DF.s (d_lc (own := [("_law_cell", 5)]) (tgd := (gName 5)) (tt := tYes) (te := (tOp (rIx K) (tVar 5) (tC (.int 1)))) (gd := (tgName 5)) (ft := eYes) (fe := (eOp dIx (eVar 5) (eC (.int 1)))) rfl sc_l_cells.nd (d_ilist (d_var 2 (pv 2))) (blkOk_by (own := [("_law_cell", 5)]) (N := N_l_cells) (sc := defScope s_l_cells) (by decide +kernel)) (fun _ _ _ _ _ => by exact (d_gname 5 (pg_name (i := 5) sc_l_cells.nd rfl (by first | exact Or.inl rfl | exact Or.inr rfl)))) (fun _ _ _ _ _ => by exact d_tsnil) (fun _ _ _ _ _ => by exact (d_ix (DS.w (d_var 5 (pv 5))) (DS.w d_int)))))) d_abnil)))) d_anil))) (d_gtup rfl (d_gcons (d_gname 3 (pg_name (i := 3) sc_l_cells.nd rfl (by first | exact Or.inl rfl | exact Or.inr rfl))) (d_gcons (d_gname 4 (pg_name (i := 4) sc_l_cells.nd rfl (by first | exact Or.inl rfl | exact Or.inr rfl))) d_gnil))))
      (d_last (d_setLc (i := 2) (own := [("_law_x", 6), ("_law_y", 7)]) (tgd := (gTup K 2 (gCons (gName 6) (gCons (gName 7) gNil)))) (tt := tYes) (te := (tTup (tCons (tOp rAddU (tVar 6) (tVar 3)) (tCons (tOp rAddU (tVar 7) (tVar 4)) tNil)))) (gd := (tgTup 2 (tgCons (tgName 6) (tgCons (tgName 7) tgNil)))) (ft := eYes) (fe := (eTup (aCons (eOp dAdd (eVar 6) (eVar 3)) (aCons (eOp dAdd (eVar 7) (eVar 4)) aNil)))) rfl sc_l_cells.nd rfl rfl (sw_true rfl rfl rfl (by decide +kernel)) (d_ilist (d_var 2 (pv 2))) (blkOk_by (own := [("_law_x", 6), ("_law_y", 7)]) (N := N_l_cells) (sc := defScope s_l_cells) (by decide +kernel)) (fun _ _ _ _ _ => by exact (d_gtup rfl (d_gcons (d_gname 6 (pg_name (i := 6) sc_l_cells.nd rfl (by first | exact Or.inl rfl | exact Or.inr rfl))) (d_gcons (d_gname 7 (pg_name (i := 7) sc_l_cells.nd rfl (by first | exact Or.inl rfl | exact Or.inr rfl))) d_gnil)))) (fun _ _ _ _ _ => by exact d_tsnil) (fun _ _ _ _ _ => by exact (d_tup (d_acons (d_add (DS.w (d_var 6 (pv 6))) (DS.w (d_var 3 (pv 3)))) (d_acons (d_add (DS.w (d_var 7 (pv 7))) (DS.w (d_var 4 (pv 4)))) d_anil)))))))
      d_nil)
      (d_last (d_ret (d_var 2 (pv 2))))))⟩
abbrev s_l_text : Stmt := top 37
theorem sc_l_text : FnScope N_l_text ["_law_cells_here"] (defScope s_l_text) := ⟨rfl, rfl, rfl, by decide +kernel, rfl, by decide +kernel, by decide +kernel⟩
theorem ok_l_text {f : Addr} {fd : FuncData} (h : Has K mg "_law_text" s_l_text ["_law_cells_here"] f fd) (Z : Zs mg)     : OkG P w K mg base 1 "_law_text" ["_law_cells_here"] G_l_text := by
  refine h.ok (k := 0) sc_l_text (fun cdv A outer s H E hr => ?_)
  exact ⟨_, (d_cons (d_set 1 (d_add (DS.w (d_callB (cr_max rfl) ref_max (by rfl) Z.z_max PyProof.Rows.boot_max (d_abcons (DS.w (DF.s (d_lc (own := [("_law_cell", 3)]) (tgd := (gName 3)) (tt := tYes) (te := (tOp (rIx K) (tVar 3) (tC (.int 0)))) (gd := (tgName 3)) (ft := eYes) (fe := (eOp dIx (eVar 3) (eC (.int 0)))) rfl sc_l_text.nd (d_ilist (d_var 0 (pv 0))) (blkOk_by (own := [("_law_cell", 3)]) (N := N_l_text) (sc := defScope s_l_text) (by decide +kernel)) (fun _ _ _ _ _ => by exact (d_gname 3 (pg_name (i := 3) sc_l_text.nd rfl (by first | exact Or.inl rfl | exact Or.inr rfl)))) (fun _ _ _ _ _ => by exact d_tsnil) (fun _ _ _ _ _ => by exact (d_ix (DS.w (d_var 3 (pv 3))) (DS.w d_int)))))) d_abnil))) (DS.w d_int)) (fun he => ps_set (i := 1) sc_l_text.nd rfl (by first | exact Or.inl rfl | exact Or.inr rfl) he))
      (d_cons (d_set 2 (d_add (DS.w (d_callB (cr_max rfl) ref_max (by rfl) Z.z_max PyProof.Rows.boot_max (d_abcons (DS.w (DF.s (d_lc (own := [("_law_cell", 3)]) (tgd := (gName 3)) (tt := tYes) (te := (tOp (rIx K) (tVar 3) (tC (.int 1)))) (gd := (tgName 3)) (ft := eYes) (fe := (eOp dIx (eVar 3) (eC (.int 1)))) rfl sc_l_text.nd (d_ilist (d_var 0 (pv 0))) (blkOk_by (own := [("_law_cell", 3)]) (N := N_l_text) (sc := defScope s_l_text) (by decide +kernel)) (fun _ _ _ _ _ => by exact (d_gname 3 (pg_name (i := 3) sc_l_text.nd rfl (by first | exact Or.inl rfl | exact Or.inr rfl)))) (fun _ _ _ _ _ => by exact d_tsnil) (fun _ _ _ _ _ => by exact (d_ix (DS.w (d_var 3 (pv 3))) (DS.w d_int)))))) d_abnil))) (DS.w d_int)) (fun he => ps_set (i := 2) sc_l_text.nd rfl (by first | exact Or.inl rfl | exact Or.inr rfl) he))
      (d_last (d_ret (DF.s (d_lc (own := [("_law_row", 4)]) (tgd := (gName 4)) (tt := tYes) (te := (tM1 (rJoinV K) (tC (.str "")) (tLc (iRng1 (tCons (tVar 1) tNil)) (gName 5) tYes (tOp (rIx K) (tC (.str ".#")) (tCB rInt1 (tCons (tOp (rInU K) (tTup (tCons (tVar 5) (tCons (tOp r_sub (tOp r_sub (tVar 2) (tC (.int 1))) (tVar 4)) tNil))) (tVar 0)) tNil))) [5]))) (gd := (tgName 4)) (ft := eYes) (fe := (eOp dJoin (eC (.str "")) (eF (fLc (iR1 (aCons (eVar 1) aNil)) (tgName 5) eYes (eOp dIx (eC (.str ".#")) (eB dInt (aCons (eOp dIn (eTup (aCons (eVar 5) (aCons (eOp dSub (eOp dSub (eVar 2) (eC (.int 1))) (eVar 4)) aNil))) (eVar 0)) aNil))) [5])))) rfl sc_l_text.nd (d_irange1 (by rfl) Z.z_range (d_abcons (DS.w (d_var 2 (pv 2))) d_abnil)) (blkOk_by (own := [("_law_row", 4)]) (N := N_l_text) (sc := defScope s_l_text) (by decide +kernel)) (fun _ _ _ _ _ => by exact (d_gname 4 (pg_name (i := 4) sc_l_text.nd rfl (by first | exact Or.inl rfl | exact Or.inr rfl)))) (fun _ _ _ _ _ => by exact d_tsnil) (fun _ _ _ _ _ => by exact (d_join (DS.w d_str) (DS.w (DF.s (d_lc (own := [("_law_x", 5)]) (tgd := (gName 5)) (tt := tYes) (te := (tOp (rIx K) (tC (.str ".#")) (tCB rInt1 (tCons (tOp (rInU K) (tTup (tCons (tVar 5) (tCons (tOp r_sub (tOp r_sub (tVar 2) (tC (.int 1))) (tVar 4)) tNil))) (tVar 0)) tNil)))) (gd := (tgName 5)) (ft := eYes) (fe := (eOp dIx (eC (.str ".#")) (eB dInt (aCons (eOp dIn (eTup (aCons (eVar 5) (aCons (eOp dSub (eOp dSub (eVar 2) (eC (.int 1))) (eVar 4)) aNil))) (eVar 0)) aNil)))) rfl sc_l_text.nd (d_irange1 (by rfl) Z.z_range (d_abcons (DS.w (d_var 1 (pv 1))) d_abnil)) (blkOk_by (own := [("_law_x", 5)]) (N := N_l_text) (by rfl)) (fun _ _ _ _ _ => by exact (d_gname 5 (pg_name (i := 5) sc_l_text.nd rfl (by first | exact Or.inl rfl | exact Or.inr rfl)))) (fun _ _ _ _ _ => by exact d_tsnil) (fun _ _ _ _ _ => by exact (d_ix (DS.w d_str) (DS.w (d_callTy call_int1 ref_int (by rfl) Z.z_int PyProof.Rows.boot_int (d_abcons (DS.w (d_in hr (DS.w (d_tup (d_acons (d_var 5 (pv 5)) (d_acons (d_sub (DS.w (d_sub (DS.w (d_var 2 (pv 2))) (DS.w d_int))) (DS.w (d_var 4 (pv 4)))) d_anil)))) (DS.w (d_var 0 (pv 0))))) d_abnil))))))))))))))))⟩
abbrev s_l_law : Stmt := top 38
abbrev N_l_law : List Str := ["_law_script", "_law_d", "_law_one", "_law_other", "_law_cells_here", "_law_rows", "_law_floor", "_law_wide", "_law_more", "_law_above", "_law_row"]
def b_l_law_1 : Sg := (gSeq (gAsg (tgName 5) (eCall G_l_text (["_law_cells_here"] : List Str).length (aCons (eVar 4) aNil)))
    (gSeq (gIf (eNotT (eTru (eCall (G_l_alike 4) (["_law_found", "_law_due"] : List Str).length (aCons (eCall G_p_written (["floor"] : List Str).length (aCons (eCall G_p_Floor_init ((["self", "cells"] : List Str).length - 1) (aCons (eVar 4) aNil)) aNil)) (aCons (eOp dJoin (eC (.str "\n")) (eVar 5)) aNil))))) (gRet (eC (.bl false))) gNext)
    (gSeq (gAsg (tgName 6) (eCall G_p_read (["text"] : List Str).length (aCons (eOp dJoin (eC (.str "\n")) (eVar 5)) aNil)))
    (gSeq (gIf (eOrT (eTest (eOp dNe (eMeth "Floor" "cells" (["self"] : List Str).length G_p_Floor_cells (eVar 6) aNil) (eB dSorted (aCons (eVar 4) aNil)))) (eTest (eOp dNe (eCall G_p_written (["floor"] : List Str).length (aCons (eVar 6) aNil)) (eOp dJoin (eC (.str "\n")) (eVar 5))))) (gRet (eC (.bl false))) gNext)
    (gSeq (gAsg (tgName 7) (eB dLen (aCons (eOp dIx (eVar 5) (eC (.int 0))) aNil)))
    (gSeq (gAsg (tgName 8) (eOp dMulU (eC (.str ".")) (eCall G_l_off (["_law_d", "_law_most"] : List Str).length (aCons (eVar 1) (aCons (eOp dSub (eC (.int 13)) (eVar 7)) aNil)))))
    (gSeq (gAsg (tgName 9) (eOp dMulU (eLst (aCons (eOp dMulU (eC (.str ".")) (eOp dAdd (eVar 7) (eB dLen (aCons (eVar 8) aNil)))) aNil)) (eCall G_l_off (["_law_d", "_law_most"] : List Str).length (aCons (eVar 1) (aCons (eOp dSub (eC (.int 13)) (eB dLen (aCons (eVar 5) aNil))) aNil)))))
    (gIf (eTest (eOp dNe (eMeth "Floor" "cells" (["self"] : List Str).length G_p_Floor_cells (eCall G_p_read (["text"] : List Str).length (aCons (eOp dJoin (eC (.str "\n")) (eOp dAdd (eVar 9) (eF (fLc (iLst (eVar 5)) (tgName 10) eYes (eOp dAdd (eVar 10) (eVar 8)) [10])))) aNil)) aNil) (eB dSorted (aCons (eVar 4) aNil)))) (gRet (eC (.bl false))) gNext))))))))
def g_l_law : Sg :=
    (gSeq (gAsg (tgName 2) (eCall G_l_cells (["_law_d", "_law_most"] : List Str).length (aCons (eVar 1) (aCons (eOp dIx (eLst (aCons (eC (.int 20)) (aCons (eC (.int 40)) aNil))) (eB dInt (aCons (eOp dEq (eCall G_l_off (["_law_d", "_law_most"] : List Str).length (aCons (eVar 1) (aCons (eC (.int 3)) aNil))) (eC (.int 0))) aNil))) aNil))))
    (gSeq (gAsg (tgName 3) (eCall G_l_cells (["_law_d", "_law_most"] : List Str).length (aCons (eVar 1) (aCons (eC (.int 20)) aNil))))
    (gSeq (gFor (iLst (eLst (aCons (eVar 2) (aCons (eVar 3) (aCons (eVar 2) aNil))))) (tgName 4) b_l_law_1)
    (gRet (eC (.bl true))))))
theorem sc_l_law : FnScope N_l_law ["_law_script"] (defScope s_l_law) := ⟨rfl, rfl, rfl, by decide +kernel, rfl, by decide +kernel, by decide +kernel⟩
theorem ok_l_law {f : Addr} {fd : FuncData} (h : Has K mg "law" s_l_law ["_law_script"] f fd) (Z : Zs mg) {C_Floor : Addr} (T_Floor : CF_Floor K mg C_Floor) (c_l_off : OkG P w K mg base 1 "_law_off" ["_law_d", "_law_most"] G_l_off) (c_l_cells : OkG P w K mg base 5 "_law_cells" ["_law_d", "_law_most"] G_l_cells) (c_l_text : OkG P w K mg base 1 "_law_text" ["_law_cells_here"] G_l_text) (c_p_Floor_init : OkC P w K mg base 3 "Floor" C_Floor ["self", "cells"] G_p_Floor_init) (c_p_written : OkG P w K mg base 3 "written" ["floor"] G_p_written) (c_l_alike : OkG P w K mg base 4 "_law_alike" ["_law_found", "_law_due"] (G_l_alike 4)) (c_p_read : OkG P w K mg base 5 "read" ["text"] G_p_read) (c_p_Floor_cells : MtG P w K mg base 1 C_Floor "cells" ["self"] G_p_Floor_cells)   {f0 : Addr} {fd0 : FuncData} (D : Has K mg "_law_dice" s_l_dice ["_law_script", "_law_k"] f0 fd0)
    (hg : ∀ ns : List Int, ns.length ≤ 63 → ∃ δ', g_l_law (startL N_l_law) (dice 0 ns) = some (.rt (.bl true) δ')) : FnOk P w K mg base CX0 6 f fd ["_law_script"] (spLaw K) := by
  refine fn_law (n0 := "_law_script") h.F sc_l_law (by decide) rfl (fun cdv A outer s H E hr => ?_) hg
  exact ⟨_, ps_set (i := 1) sc_l_law.nd rfl (by first | exact Or.inl rfl | exact Or.inr rfl) (pe_call (ok_dice D Z) (hr.mono (by decide)) (by rfl) D.m D.F.kp D.b .nil pass0 (pa_cons (pv 0) (pa_cons pe_int pa_nil))), (d_cons (d_set 2 (d_callO c_l_cells (hr.mono (by decide)) (by rfl) (d_acons (d_var 1 (pv 1)) (d_acons (d_ix (DS.w (d_lst (d_acons d_int (d_acons d_int d_anil)))) (DS.w (d_callTy call_int1 ref_int (by rfl) Z.z_int PyProof.Rows.boot_int (d_abcons (DS.w (d_eq hr (DS.w (d_callO c_l_off (hr.mono (by decide)) (by rfl) (d_acons (d_var 1 (pv 1)) (d_acons d_int d_anil)))) (DS.w d_int))) d_abnil)))) d_anil))) (fun he => ps_set (i := 2) sc_l_law.nd rfl (by first | exact Or.inl rfl | exact Or.inr rfl) he))
      (d_cons (d_set 3 (d_callO c_l_cells (hr.mono (by decide)) (by rfl) (d_acons (d_var 1 (pv 1)) (d_acons d_int d_anil))) (fun he => ps_set (i := 3) sc_l_law.nd rfl (by first | exact Or.inl rfl | exact Or.inr rfl) he))
      (d_cons (d_for PassesOwn.never rfl (d_ilist (d_lst (d_acons (d_var 2 (pv 2)) (d_acons (d_var 3 (pv 3)) (d_acons (d_var 2 (pv 2)) d_anil))))) (d_gname 4 (pg_name (i := 4) sc_l_law.nd rfl (by first | exact Or.inl rfl | exact Or.inr rfl)))
      (d_cons (d_set 5 (d_callO c_l_text (hr.mono (by decide)) (by rfl) (d_acons (d_var 4 (pv 4)) d_anil)) (fun he => ps_set (i := 5) sc_l_law.nd rfl (by first | exact Or.inl rfl | exact Or.inr rfl) he))
      (d_cons (d_if (d_tnot (d_truth (DS.w (d_callO c_l_alike (hr.mono (by decide)) (by rfl) (d_acons (d_callO c_p_written (hr.mono (by decide)) (by rfl) (d_acons (d_makeC T_Floor.cl c_p_Floor_init (hr.mono (by decide)) (by rfl) (d_acons (d_var 4 (pv 4)) d_anil)) d_anil)) (d_acons (d_join (DS.w d_str) (DS.w (d_var 5 (pv 5)))) d_anil))))))
      (d_last (d_ret d_bl))
      d_nil)
      (d_cons (d_set 6 (d_callO c_p_read (hr.mono (by decide)) (by rfl) (d_acons (d_join (DS.w d_str) (DS.w (d_var 5 (pv 5)))) d_anil)) (fun he => ps_set (i := 6) sc_l_law.nd rfl (by first | exact Or.inl rfl | exact Or.inr rfl) he))
      (d_cons (d_if (DW.dt (d_or (d_tne hr (DS.w (d_meth0 T_Floor.cl c_p_Floor_cells (hr.mono (by decide)) (d_var 6 (pv 6)))) (DS.w (d_callB cr_sortedPO ref_sorted (by rfl) Z.z_sorted PyProof.Rows.boot_sorted (d_abcons (DS.w (d_var 4 (pv 4))) d_abnil)))) (d_or1 (d_tne hr (DS.w (d_callO c_p_written (hr.mono (by decide)) (by rfl) (d_acons (d_var 6 (pv 6)) d_anil))) (DS.w (d_join (DS.w d_str) (DS.w (d_var 5 (pv 5)))))))))
      (d_last (d_ret d_bl))
      d_nil)
      (d_cons (d_set 7 (d_callB call_lenU ref_len (by rfl) Z.z_len PySem.boot_len (d_abcons (DS.w (d_ix (DS.w (d_var 5 (pv 5))) (DS.w d_int))) d_abnil)) (fun he => ps_set (i := 7) sc_l_law.nd rfl (by first | exact Or.inl rfl | exact Or.inr rfl) he))
      (d_cons (d_set 8 (d_mulU (DS.w d_str) (DS.w (d_callO c_l_off (hr.mono (by decide)) (by rfl) (d_acons (d_var 1 (pv 1)) (d_acons (d_sub (DS.w d_int) (DS.w (d_var 7 (pv 7)))) d_anil))))) (fun he => ps_set (i := 8) sc_l_law.nd rfl (by first | exact Or.inl rfl | exact Or.inr rfl) he))
      (d_cons (d_set 9 (d_mulU (DS.w (d_lst (d_acons (d_mulU (DS.w d_str) (DS.w (d_add (DS.w (d_var 7 (pv 7))) (DS.w (d_callB call_lenU ref_len (by rfl) Z.z_len PySem.boot_len (d_abcons (DS.w (d_var 8 (pv 8))) d_abnil)))))) d_anil))) (DS.w (d_callO c_l_off (hr.mono (by decide)) (by rfl) (d_acons (d_var 1 (pv 1)) (d_acons (d_sub (DS.w d_int) (DS.w (d_callB call_lenU ref_len (by rfl) Z.z_len PySem.boot_len (d_abcons (DS.w (d_var 5 (pv 5))) d_abnil)))) d_anil))))) (fun he => ps_set (i := 9) sc_l_law.nd rfl (by first | exact Or.inl rfl | exact Or.inr rfl) he))
      (d_last (d_if (d_tne hr (DS.w (d_meth0 T_Floor.cl c_p_Floor_cells (hr.mono (by decide)) (d_callO c_p_read (hr.mono (by decide)) (by rfl) (d_acons (d_join (DS.w d_str) (DS.w (d_add (DS.w (d_var 9 (pv 9))) (DS.w (DF.s (d_lc (own := [("_law_row", 10)]) (tgd := (gName 10)) (tt := tYes) (te := (tOp rAddU (tVar 10) (tVar 8))) (gd := (tgName 10)) (ft := eYes) (fe := (eOp dAdd (eVar 10) (eVar 8))) rfl sc_l_law.nd (d_ilist (d_var 5 (pv 5))) (blkOk_by (own := [("_law_row", 10)]) (N := N_l_law) (sc := defScope s_l_law) (by decide +kernel)) (fun _ _ _ _ _ => by exact (d_gname 10 (pg_name (i := 10) sc_l_law.nd rfl (by first | exact Or.inl rfl | exact Or.inr rfl)))) (fun _ _ _ _ _ => by exact d_tsnil) (fun _ _ _ _ _ => by exact (d_add (DS.w (d_var 10 (pv 10))) (DS.w (d_var 8 (pv 8))))))))))) d_anil)))) (DS.w (d_callB cr_sortedPO ref_sorted (by rfl) Z.z_sorted PyProof.Rows.boot_sorted (d_abcons (DS.w (d_var 4 (pv 4))) d_abnil))))
      (d_last (d_ret d_bl))
      d_nil))))))))))
      (d_last (d_ret d_bl)))))⟩
end
end K21

local macro_rules | `(tactic| and_intros) => `(tactic| simp only [Dl.r_kR, Dl.r_var, Dl.r_kVar, Dl.r_varB, Dl.r_kVarB, Dl.r_kVarB2, Dl.r_kVarB3, Dl.r_C, Dl.r_Op, Dl.r_kOp, Dl.r_kOp3, Dl.r_Un, Dl.r_kUn, Dl.r_Test, Dl.r_kTest, Dl.r_AndT, Dl.r_kAndT, Dl.r_kAndT2t, Dl.r_kAndT2f, Dl.r_OrT, Dl.r_kOrT, Dl.r_kOrT2t, Dl.r_kOrT2f, Dl.r_NotT, Dl.r_kNotT, Dl.r_And, Dl.r_kAnd, Dl.r_kAnd2t, Dl.r_kAnd2f, Dl.r_Or, Dl.r_kOr, Dl.r_kOr2t, Dl.r_kOr2f, Dl.r_Not, Dl.r_kNot, Dl.r_Tru, Dl.r_kTru, Dl.r_kTru2, Dl.r_truB, Dl.r_truI, Dl.r_truL, Dl.r_truN, Dl.r_IfE, Dl.r_kIfE, Dl.r_kIfEt, Dl.r_kIfEf, Dl.r_nil, Dl.r_cons, Dl.r_kCons, Dl.r_kCons2, Dl.r_Tup, Dl.r_kTup0, Dl.r_kTup1, Dl.r_kTup2, Dl.r_kTup3, Dl.r_kTup4, Dl.r_kTup5, Dl.r_kTup6, Dl.r_kTup7, Dl.r_kTup8, Dl.r_kTup9, Dl.r_Lst, Dl.r_kLst0, Dl.r_kLst1, Dl.r_kLst2, Dl.r_kLst3, Dl.r_kLst4, Dl.r_kLst5, Dl.r_kLst6, Dl.r_kLst7, Dl.r_kLst8, Dl.r_kLst9, Dl.r_FL, Dl.r_kFL0, Dl.r_kFL1, Dl.r_kFL2, Dl.r_kFL3, Dl.r_kFL4, Dl.r_kFL5, Dl.r_kFL6, Dl.r_kFL7, Dl.r_kFL8, Dl.r_kFL9, Dl.r_B, Dl.r_kB, Dl.r_Call, Dl.r_kCall0, Dl.r_kCallI0, Dl.r_kCall1, Dl.r_kCallI1, Dl.r_kCall2, Dl.r_kCallI2, Dl.r_kCall3, Dl.r_kCallI3, Dl.r_kCall4, Dl.r_kCallI4, Dl.r_kCall5, Dl.r_kCallI5, Dl.r_kCall6, Dl.r_kCallI6, Dl.r_oN, Dl.r_oS, Dl.r_kO, Dl.r_Sl, Dl.r_kSl, Dl.r_kSl2, Dl.r_kSl3, Dl.r_Kd, Dl.r_kKd, Dl.r_Ch, Dl.r_kCh, Dl.r_kCh2, Dl.r_kCh3t, Dl.r_kCh3f, Dl.r_kCh4, Dl.r_F, Dl.r_kF, Dl.r_run, Dl.r_kRun, Dl.r_kRun2, Dl.r_tgN, Dl.r_tgC, Dl.r_kTg, Dl.r_tg0, Dl.r_tgtup1, Dl.r_tgctup1, Dl.r_tgtup2, Dl.r_tgctup2, Dl.r_tgtup3, Dl.r_tgctup3, Dl.r_tgtup4, Dl.r_tgctup4, Dl.r_tgtup5, Dl.r_tgctup5, Dl.r_Asg, Dl.r_kAsg, Dl.r_kAsg2, Dl.r_Seq, Dl.r_kSeq, Dl.r_kSeqR, Dl.r_kSeqB, Dl.r_kSeqC, Dl.r_next, Dl.r_break, Dl.r_cont, Dl.r_Ret, Dl.r_kRet, Dl.r_RetN, Dl.r_RO, Dl.r_kRo, Dl.r_RC, Dl.r_kRc, Dl.r_kRcL, Dl.r_If, Dl.r_kIf, Dl.r_kIft, Dl.r_kIff, Dl.r_Own, Dl.r_kOwn, Dl.r_App, Dl.r_kApp, Dl.r_kApp2, Dl.r_Pop, Dl.r_kPop, Dl.r_Frz, Dl.r_kFrz, Dl.r_FrzT, Dl.r_kFrzT, Dl.r_For, Dl.r_kFor, Dl.r_for0, Dl.r_forS, Dl.r_kForS, Dl.r_kForN, Dl.r_kForC, Dl.r_kForB, Dl.r_kForR, Dl.r_iL, Dl.r_kLstW, Dl.r_iT, Dl.r_kTupW, Dl.r_kTupW2, Dl.r_iS, Dl.r_kStrW, Dl.r_iR1, Dl.r_kR1, Dl.r_iR2, Dl.r_kR2, Dl.r_iR3, Dl.r_kR3, Dl.r_iEn, Dl.r_kEn, Dl.r_iEnS, Dl.r_kEnS, Dl.r_nOw0, Dl.r_nOw, Dl.r_nOwV, Dl.r_nOwU, Dl.r_nOwN, Dl.r_wipe0, Dl.r_wipeS, Dl.r_Lc, Dl.r_kLc, Dl.r_Lc2, Dl.r_kLc2, Dl.r_yes, Dl.r_lc0, Dl.r_Par, Dl.r_kPar, Dl.r_Par3, Dl.r_kPar3, Dl.r_Drop, Dl.r_kDrop, Dl.r_RevL, Dl.r_kRevL, Dl.r_TupOf, Dl.r_kTupOf, Dl.r_TupRg, Dl.r_kTupRg, Dl.r_LstRg, Dl.r_kLstRg, Dl.r_Disp, Dl.r_kDisp, Dl.r_List, Dl.r_kList, Dl.r_Meth, Dl.r_kMeth0, Dl.r_kMeth1, Dl.r_kMeth2, Dl.r_kMeth3, Dl.dAdd_i, Dl.dSub_i, Dl.dLt_i, Dl.dLe_i, Dl.dGt_i, Dl.dGe_i, Dl.dEq_i, Dl.dNe_i, Dl.r_neg, List.getElem?_cons_zero, List.getElem?_cons_succ, List.set_cons_zero, List.set_cons_succ, List.getElem?_nil, Bool.and_true, Bool.true_and, Bool.and_false, Bool.false_and, Bool.not_true, Bool.not_false, decide_true, decide_false, ↓reduceIte, Bool.false_eq_true, if_true, if_false, List.length_map, Bool.and_self, not_true_eq_false, not_false_eq_true, Bool.or_true, Bool.or_false, Bool.true_or, Bool.false_or, and_false, false_and, and_true, true_and, Cm.tup2, Cm.r_tgP, Cm.dEq_pr, Cm.r_Din, Cm.r_kDin, Cm.r_kDinT, Cm.r_Fld, Cm.r_fCells, Cm.r_fFirst, Cm.r_fRim, Cm.r_mRim, Cm.r_mFirst, Cm.r_mCells, Cm.r_mHas, Cm.r_condf, Cm.r_condt, Cm.dIx_p0, Cm.dIx_p1, Cm.dNe_pr, Cm.dIn_pr, Cm.dNotIn_pr, Cm.floor_rim, Cm.floor_first, Cm.floor_cells, Cm.range_nat, Cm.nil_S, Cm.hash_S, Cm.dot_S, Cm.nl_S, Cm.e_S, Cm.n_S, Cm.w_S, Cm.s_S, List.length_range, *])
/-! The law's own text of a floor; texts with more rows and columns. -/
namespace Cm
open PySem PySem.Spec L2 Dl
section
variable {ss cs : List P2} {w : List Nat} {δ : List Int} {x y : Int}
theorem dInt_b {k : Bool} : dInt [.bl k] = some (.int (if k then 1 else 0)) := rfl
theorem ix_sign (b : Bool) : dIx (.str (Str.ofString ".#")) (.int (if b = true then 1 else 0)) = some (ltrD (if b = true then 35 else 46)) := by cases b <;> rfl
theorem text_eq {mx my : Nat} (hx : maxI (cs.map (·.1)) = (mx : Int)) (hy : maxI (cs.map (·.2)) = (my : Int)) (hne : cs ≠ []) (hl : cs.length < 1000) (h1 : mx < 100) (h2 : my < 100) :
    G_l_text [.lst (cs.map pD)] δ = some (.lst ((rowsM cs (my + 1) (mx + 1)).map fun w => .str (S w)), δ) := by
  unfold G_l_text
  rw [r_run]
  show kRun (g_l_text [.val (.lst (cs.map pD)), .un, .un, .un, .un, .un] δ) = _
  unfold g_l_text
  have hl' : cs.length < 1000000 := by omega
  and_intros
  rw [lc_mapf (φ := fun (p : P2) => .int p.1) fun p hp => ⟨_, rfl, rfl, rfl⟩]
  have e1 : (cs.map fun (p : P2) => Dat.int p.1) = (cs.map (·.1)).map Dat.int := by rw [List.map_map]; rfl
  have e2 : (cs.map fun (p : P2) => Dat.int p.2) = (cs.map (·.2)).map Dat.int := by rw [List.map_map]; rfl
  rw [e1]
  have m1 := dMax_s (ks := cs.map (·.1)) (by simpa using hne)
  have m2 := dMax_s (ks := cs.map (·.2)) (by simpa using hne)
  and_intros
  rw [lc_mapf (φ := fun (p : P2) => .int p.2) fun p hp => ⟨_, rfl, rfl, rfl⟩, e2]
  have c1 : (mx : Int) + 1 = ((mx + 1 : Nat) : Int) := by omega
  have c2 : (my : Int) + 1 = ((my + 1 : Nat) : Int) := by omega
  rw [c1]
  have hb1 : bnd ((mx + 1 : Nat) : Int) = true := by unfold bnd; simp; omega
  have hb2 : bnd ((my + 1 : Nat) : Int) = true := by unfold bnd; simp; omega
  have hl2 : my + 1 < 1000000 := by omega
  have hl3 : mx + 1 < 1000000 := by omega
  and_intros
  rw [lc_mapf (φ := fun (i : Nat) => .str (S (rowM cs (mx + 1) (((my + 1 : Nat) : Int) - 1 - (i : Nat))))) fun i hi => ⟨_, rfl, rfl, by
    unfold natD
    and_intros
    rw [lc_mapf (φ := fun (j : Nat) => ltrD (if decide (((j : Int), ((my + 1 : Nat) : Int) - 1 - (i : Nat)) ∈ cs) = true then 35 else 46)) fun j hj => ⟨_, rfl, rfl, by
      unfold natD
      have := @dInt_b
      have := ix_sign (decide (((j : Int), ((my + 1 : Nat) : Int) - 1 - (i : Nat)) ∈ cs))
      and_intros⟩]
    have hj := dJoin_let (c := fun (j : Nat) => if decide (((j : Int), ((my + 1 : Nat) : Int) - 1 - (i : Nat)) ∈ cs) = true then 35 else 46) (l := List.range (mx + 1)) (by simpa using hl3)
    clear e1 e2 c1 c2
    and_intros
    unfold rowM
    simp only [decide_eq_true_eq]⟩]
  have e3 : ((List.range (my + 1)).map fun (i : Nat) => Dat.str (S (rowM cs (mx + 1) (((my + 1 : Nat) : Int) - 1 - (i : Nat))))) = (rowsM cs (my + 1) (mx + 1)).map fun w => .str (S w) := by
    unfold rowsM
    rw [List.map_map]
    rfl
  rw [e3]
  clear e1 e2 c1 c2 e3
  and_intros
end
end Cm

/-! Rows with more above and to the right draw the same cells. -/
namespace Cm
open PySem PySem.Spec L2 Dl
section
variable {ss cs : List P2} {w : List Nat} {δ : List Int} {x y : Int}
theorem mem_cellsG {rows : List (List Nat)} {p : P2} : p ∈ cellsT rows ↔ ∃ (k i : Nat) (row : List Nat), rows.reverse[k]? = some row ∧ row[i]? = some 35 ∧ p = ((i : Int), (k : Int)) := by
  unfold cellsT
  rw [List.mem_flatten]
  constructor
  · rintro ⟨l, hl, hp⟩
    obtain ⟨⟨row, k⟩, ha, rfl⟩ := List.mem_map.mp hl
    obtain ⟨⟨c, i⟩, hb, rfl⟩ := List.mem_map.mp hp
    obtain ⟨hb, hc⟩ := List.mem_filter.mp hb
    have hc : c = 35 := of_decide_eq_true hc
    subst hc
    exact ⟨k, i, row, List.mem_zipIdx_iff_getElem?.mp ha, List.mem_zipIdx_iff_getElem?.mp hb, rfl⟩
  · rintro ⟨k, i, row, h1, h2, rfl⟩
    exact ⟨_, List.mem_map.mpr ⟨(row, k), List.mem_zipIdx_iff_getElem?.mpr h1, rfl⟩, List.mem_map.mpr ⟨(35, i), List.mem_filter.mpr ⟨List.mem_zipIdx_iff_getElem?.mpr h2, rfl⟩, rfl⟩⟩
theorem nd_cellsG {rows : List (List Nat)} : (cellsT rows).Nodup := by
  unfold cellsT
  have nz : ∀ {α : Type} (l : List α), l.zipIdx.Pairwise fun a b => a.2 ≠ b.2 := fun {α} l => by
    rw [List.pairwise_iff_getElem]
    intro i j hi hj hij
    rw [List.getElem_zipIdx, List.getElem_zipIdx]
    simp
    omega
  refine List.pairwise_flatten.mpr ⟨?_, ?_⟩
  · intro l hl
    obtain ⟨⟨row, k⟩, ha, rfl⟩ := List.mem_map.mp hl
    refine List.pairwise_map.mpr (((nz row).filter _).imp fun {a b} hab z => hab ?_)
    have := (Prod.mk.inj z).1
    omega
  · refine List.pairwise_map.mpr ((nz _).imp fun {a b} hab x hx y hy exy => hab ?_)
    obtain ⟨i, hi, rfl⟩ := List.mem_map.mp hx
    obtain ⟨j, hj, rfl⟩ := List.mem_map.mp hy
    have := (Prod.mk.inj exy).2
    omega
/-- m more columns, k more rows -/
def moreM (rows : List (List Nat)) (n m k : Nat) : List (List Nat) := List.replicate k (List.replicate (n + m) 46) ++ rows.map (· ++ List.replicate m 46)
theorem mem_more {rows : List (List Nat)} {n m k : Nat} {p : P2} : p ∈ cellsT (moreM rows n m k) ↔ p ∈ cellsT rows := by
  rw [mem_cellsG, mem_cellsG]
  unfold moreM
  rw [List.reverse_append, ← List.map_reverse, List.reverse_replicate]
  have e : ∀ (row : List Nat) (i : Nat), (row ++ List.replicate m 46)[i]? = some 35 ↔ row[i]? = some 35 := fun row i => by
    by_cases h : i < row.length
    · rw [List.getElem?_append_left h]
    · rw [List.getElem?_append_right (by omega), List.getElem?_eq_none (show row.length ≤ i by omega), List.getElem?_replicate]
      split <;> simp
  constructor
  · rintro ⟨j, i, row, h1, h2, rfl⟩
    by_cases h : j < rows.reverse.length
    · rw [List.getElem?_append_left (by rw [List.length_map]; exact h), List.getElem?_map] at h1
      cases h3 : rows.reverse[j]? with
      | none => rw [h3] at h1; cases h1
      | some r =>
        rw [h3] at h1
        cases h1
        exact ⟨j, i, r, h3, (e r i).mp h2, rfl⟩
    · rw [List.getElem?_append_right (by rw [List.length_map]; omega), List.getElem?_replicate] at h1
      split at h1
      · cases h1
        rw [List.getElem?_replicate] at h2
        split at h2 <;> simp at h2
      · cases h1
  · rintro ⟨j, i, row, h1, h2, rfl⟩
    have h : j < rows.reverse.length := (List.getElem?_eq_some_iff.mp h1).1
    refine ⟨j, i, row ++ List.replicate m 46, ?_, (e row i).mpr h2, rfl⟩
    rw [List.getElem?_append_left (by rw [List.length_map]; exact h), List.getElem?_map, h1]
    rfl
/-- rows that draw a floor's cells -/
theorem read_perm {cs : List P2} {rows : List (List Nat)} {n : Nat} (g : Gf cs w) (hn : 1 ≤ n) (hn2 : n ≤ 12) (h0 : rows ≠ []) (h1 : rows.length ≤ 12) (h2 : ∀ row ∈ rows, row.length = n ∧ row.all okS = true) (hm : ∀ p, p ∈ cellsT rows ↔ p ∈ cs) :
    G_p_read [.str (S (TL.joinL [10] rows))] δ = some (flD (sortP cs) w, δ) := by
  have pm : (cellsT rows).Perm cs := perm_of nd_cellsG g.nd hm
  have ne : cellsT rows ≠ [] := fun z => g.ne (by rw [z] at pm; exact pm.symm.eq_nil)
  have g2 : Gf (cellsT rows) w := ⟨nd_cellsG, fun p hp => g.inb p (pm.mem_iff.mp hp), ne, by rw [pm.length_eq]; exact g.le, by rw [rim_perm pm ne]; exact g.rim⟩
  have e : sortP (cellsT rows) = sortP cs := sortP_uniq ((sortP_perm _).trans pm) (sortP_srt _)
  have hf := floor_ok (δ := δ) g2
  rw [e] at hf
  exact read_eq hn hn2 h0 h1 h2 hf
end
end Cm

local macro_rules | `(tactic| and_intros) => `(tactic| simp only [Dl.r_kR, Dl.r_var, Dl.r_kVar, Dl.r_varB, Dl.r_kVarB, Dl.r_kVarB2, Dl.r_kVarB3, Dl.r_C, Dl.r_Op, Dl.r_kOp, Dl.r_kOp3, Dl.r_Un, Dl.r_kUn, Dl.r_Test, Dl.r_kTest, Dl.r_AndT, Dl.r_kAndT, Dl.r_kAndT2t, Dl.r_kAndT2f, Dl.r_OrT, Dl.r_kOrT, Dl.r_kOrT2t, Dl.r_kOrT2f, Dl.r_NotT, Dl.r_kNotT, Dl.r_And, Dl.r_kAnd, Dl.r_kAnd2t, Dl.r_kAnd2f, Dl.r_Or, Dl.r_kOr, Dl.r_kOr2t, Dl.r_kOr2f, Dl.r_Not, Dl.r_kNot, Dl.r_Tru, Dl.r_kTru, Dl.r_kTru2, Dl.r_truB, Dl.r_truI, Dl.r_truL, Dl.r_truN, Dl.r_IfE, Dl.r_kIfE, Dl.r_kIfEt, Dl.r_kIfEf, Dl.r_nil, Dl.r_cons, Dl.r_kCons, Dl.r_kCons2, Dl.r_Tup, Dl.r_kTup0, Dl.r_kTup1, Dl.r_kTup2, Dl.r_kTup3, Dl.r_kTup4, Dl.r_kTup5, Dl.r_kTup6, Dl.r_kTup7, Dl.r_kTup8, Dl.r_kTup9, Dl.r_Lst, Dl.r_kLst0, Dl.r_kLst1, Dl.r_kLst2, Dl.r_kLst3, Dl.r_kLst4, Dl.r_kLst5, Dl.r_kLst6, Dl.r_kLst7, Dl.r_kLst8, Dl.r_kLst9, Dl.r_FL, Dl.r_kFL0, Dl.r_kFL1, Dl.r_kFL2, Dl.r_kFL3, Dl.r_kFL4, Dl.r_kFL5, Dl.r_kFL6, Dl.r_kFL7, Dl.r_kFL8, Dl.r_kFL9, Dl.r_B, Dl.r_kB, Dl.r_Call, Dl.r_kCall0, Dl.r_kCallI0, Dl.r_kCall1, Dl.r_kCallI1, Dl.r_kCall2, Dl.r_kCallI2, Dl.r_kCall3, Dl.r_kCallI3, Dl.r_kCall4, Dl.r_kCallI4, Dl.r_kCall5, Dl.r_kCallI5, Dl.r_kCall6, Dl.r_kCallI6, Dl.r_oN, Dl.r_oS, Dl.r_kO, Dl.r_Sl, Dl.r_kSl, Dl.r_kSl2, Dl.r_kSl3, Dl.r_Kd, Dl.r_kKd, Dl.r_Ch, Dl.r_kCh, Dl.r_kCh2, Dl.r_kCh3t, Dl.r_kCh3f, Dl.r_kCh4, Dl.r_F, Dl.r_kF, Dl.r_run, Dl.r_kRun, Dl.r_kRun2, Dl.r_tgN, Dl.r_tgC, Dl.r_kTg, Dl.r_tg0, Dl.r_tgtup1, Dl.r_tgctup1, Dl.r_tgtup2, Dl.r_tgctup2, Dl.r_tgtup3, Dl.r_tgctup3, Dl.r_tgtup4, Dl.r_tgctup4, Dl.r_tgtup5, Dl.r_tgctup5, Dl.r_Asg, Dl.r_kAsg, Dl.r_kAsg2, Dl.r_Seq, Dl.r_kSeq, Dl.r_kSeqR, Dl.r_kSeqB, Dl.r_kSeqC, Dl.r_next, Dl.r_break, Dl.r_cont, Dl.r_Ret, Dl.r_kRet, Dl.r_RetN, Dl.r_RO, Dl.r_kRo, Dl.r_RC, Dl.r_kRc, Dl.r_kRcL, Dl.r_If, Dl.r_kIf, Dl.r_kIft, Dl.r_kIff, Dl.r_Own, Dl.r_kOwn, Dl.r_App, Dl.r_kApp, Dl.r_kApp2, Dl.r_Pop, Dl.r_kPop, Dl.r_Frz, Dl.r_kFrz, Dl.r_FrzT, Dl.r_kFrzT, Dl.r_For, Dl.r_kFor, Dl.r_for0, Dl.r_forS, Dl.r_kForS, Dl.r_kForN, Dl.r_kForC, Dl.r_kForB, Dl.r_kForR, Dl.r_iL, Dl.r_kLstW, Dl.r_iT, Dl.r_kTupW, Dl.r_kTupW2, Dl.r_iS, Dl.r_kStrW, Dl.r_iR1, Dl.r_kR1, Dl.r_iR2, Dl.r_kR2, Dl.r_iR3, Dl.r_kR3, Dl.r_iEn, Dl.r_kEn, Dl.r_iEnS, Dl.r_kEnS, Dl.r_nOw0, Dl.r_nOw, Dl.r_nOwV, Dl.r_nOwU, Dl.r_nOwN, Dl.r_wipe0, Dl.r_wipeS, Dl.r_Lc, Dl.r_kLc, Dl.r_Lc2, Dl.r_kLc2, Dl.r_yes, Dl.r_lc0, Dl.r_Par, Dl.r_kPar, Dl.r_Par3, Dl.r_kPar3, Dl.r_Drop, Dl.r_kDrop, Dl.r_RevL, Dl.r_kRevL, Dl.r_TupOf, Dl.r_kTupOf, Dl.r_TupRg, Dl.r_kTupRg, Dl.r_LstRg, Dl.r_kLstRg, Dl.r_Disp, Dl.r_kDisp, Dl.r_List, Dl.r_kList, Dl.r_Meth, Dl.r_kMeth0, Dl.r_kMeth1, Dl.r_kMeth2, Dl.r_kMeth3, Dl.dAdd_i, Dl.dSub_i, Dl.dLt_i, Dl.dLe_i, Dl.dGt_i, Dl.dGe_i, Dl.dEq_i, Dl.dNe_i, Dl.r_neg, List.getElem?_cons_zero, List.getElem?_cons_succ, List.set_cons_zero, List.set_cons_succ, List.getElem?_nil, Bool.and_true, Bool.true_and, Bool.and_false, Bool.false_and, Bool.not_true, Bool.not_false, decide_true, decide_false, ↓reduceIte, Bool.false_eq_true, if_true, if_false, List.length_map, Bool.and_self, not_true_eq_false, not_false_eq_true, Bool.or_true, Bool.or_false, Bool.true_or, Bool.false_or, and_false, false_and, and_true, true_and, Cm.tup2, Cm.r_tgP, Cm.dEq_pr, Cm.r_Din, Cm.r_kDin, Cm.r_kDinT, Cm.r_Fld, Cm.r_fCells, Cm.r_fFirst, Cm.r_fRim, Cm.r_mRim, Cm.r_mFirst, Cm.r_mCells, Cm.r_mHas, Cm.r_condf, Cm.r_condt, Cm.dIx_p0, Cm.dIx_p1, Cm.dNe_pr, Cm.dIn_pr, Cm.dNotIn_pr, Cm.floor_rim, Cm.floor_first, Cm.floor_cells, Cm.range_nat, Cm.nil_S, Cm.hash_S, Cm.dot_S, Cm.nl_S, Cm.e_S, Cm.n_S, Cm.w_S, Cm.s_S, List.length_range, *])
namespace K21
open PySem PySem.Spec L2 Dl Cm
section
variable {cs : List P2} {w : List Nat} {δ : List Int}
theorem jl_ok {rows : List (List Nat)} {n : Nat} (h1 : rows.length ≤ 12) (hn : n ≤ 12) (h2 : ∀ row ∈ rows, row.length = n ∧ row.all okS = true) : rows.flatten.length + rows.length * [10].length < 1000000 := by
  have fl : rows.flatten.length ≤ 12 * rows.length := by
    clear h1
    induction rows with
    | nil => simp
    | cons a l ih =>
      have := ih fun row hr => h2 row (List.mem_cons_of_mem _ hr)
      have := (h2 a List.mem_cons_self).1
      simp only [List.flatten_cons, List.length_append, List.length_cons]
      omega
  simp only [List.length_cons, List.length_nil, Nat.zero_add, Nat.mul_one]
  omega
theorem join_lt {rows : List (List Nat)} (h2 : ∀ row ∈ rows, row.all okS = true) : ∀ c ∈ TL.joinL [10] rows, c < 128 := by
  induction rows with
  | nil => intro c hc; simp [TL.joinL] at hc
  | cons a l ih =>
    intro c hc
    have ha := ok_lt (h2 a List.mem_cons_self)
    cases l with
    | nil => exact (ha c (by simpa [TL.joinL] using hc)).1
    | cons b l =>
      simp only [TL.joinL, List.mem_append, List.mem_singleton] at hc
      rcases hc with hc | hc | hc
      · exact (ha c hc).1
      · omega
      · exact ih (fun row hr => h2 row (List.mem_cons_of_mem _ hr)) c hc
abbrev env21 (L1 L2 : Dat) (cs : List P2) (s5 s6 s7 s8 s9 : Dl.Slot) : Ev := [.un, .val .dice, .val L1, .val L2, .val (.lst (cs.map pD)), s5, s6, s7, s8, s9, .un]
theorem turn21 {L1 L2 : Dat} (g : Gf cs w) (hd : 2 ≤ δ.length) (s5 s6 s7 s8 s9 : Dl.Slot) : ∃ t5 t6 t7 t8 t9 δ', b_l_law_1 (env21 L1 L2 cs s5 s6 s7 s8 s9) δ = some (.nx (env21 L1 L2 cs t5 t6 t7 t8 t9) δ') ∧ 2 ≤ δ'.length := by
  obtain ⟨h1, h2, h3, h4⟩ := g.mx
  have hle := g.le
  have rok : ∀ row ∈ rowsM cs (myM cs + 1) (mxM cs + 1), row.length = mxM cs + 1 ∧ row.all okS = true := rowsM_ok
  have rl : (rowsM cs (myM cs + 1) (mxM cs + 1)).length = myM cs + 1 := rowsM_len
  have e1 : ∀ δ : List Int, G_l_text [.lst (cs.map pD)] δ = some (.lst ((rowsM cs (myM cs + 1) (mxM cs + 1)).map fun w => .str (S w)), δ) := fun δ => text_eq h1 h3 g.ne (by omega) (by omega) (by omega)
  have ej : dJoin (.str (S [10])) (.lst ((rowsM cs (myM cs + 1) (mxM cs + 1)).map fun w => .str (S w))) = some (.str (S (textM cs))) := dJoin_sep (jl_ok (n := mxM cs + 1) (by omega) (by omega) rok)
  have ef : ∀ δ : List Int, G_p_Floor_init [.lst (cs.map pD)] δ = some (flD (sortP cs) w, δ) := fun δ => floor_ok g
  have ew : ∀ δ : List Int, G_p_written [flD (sortP cs) w] δ = some (.str (S (textM cs)), δ) := fun δ => by
    rw [← textM_perm (sortP_perm cs) g.sorted.ne]
    exact written_ok g.sorted
  have tl : ∀ c ∈ textM cs, c < 128 := join_lt fun row h => (rok row h).2
  have ea : ∀ δ : List Int, G_l_alike 4 [.str (S (textM cs)), .str (S (textM cs))] δ = some (.bl (decide (textM cs = textM cs)), δ) := fun δ => alike_str tl tl
  have er : ∀ δ : List Int, G_p_read [.str (S (textM cs))] δ = some (flD (sortP cs) w, δ) := fun δ => read_ok g
  have es := dSorted_s cs
  have el := lst_ne (sortP cs)
  have en := dNe_S tl tl
  obtain ⟨row0, hr0⟩ : ∃ row0, (rowsM cs (myM cs + 1) (mxM cs + 1))[0]? = some row0 := ⟨_, List.getElem?_eq_getElem (by omega)⟩
  have l0 := (rok row0 (List.mem_of_getElem? hr0)).1
  have ei : dIx (.lst ((rowsM cs (myM cs + 1) (mxM cs + 1)).map fun w => .str (S w))) (.int 0) = some (.str (S row0)) := atI_nat' (j := 0) rfl (by rw [List.getElem?_map, hr0]; rfl)
  have eL : dLen [.str (S row0)] = some (.int ((mxM cs + 1 : Nat) : Int)) := by rw [dLen_S (by omega), l0]
  have eR : dLen [.lst ((rowsM cs (myM cs + 1) (mxM cs + 1)).map fun w => .str (S w))] = some (.int ((myM cs + 1 : Nat) : Int)) := by rw [dLen_l (by rw [List.length_map]; omega), List.length_map, rl]
  -- the draws
  have o1 := off_eq (m := 13 - ((mxM cs + 1 : Nat) : Int)) (δ := δ) (by omega) (by omega) hd
  have n1 := off_nn (m := 13 - ((mxM cs + 1 : Nat) : Int)) (δ := δ) (by omega)
  have d1 := off_len (m := 13 - ((mxM cs + 1 : Nat) : Int)) (δ := δ) hd
  generalize offM (13 - ((mxM cs + 1 : Nat) : Int)) δ = r1 at o1 n1 d1
  obtain ⟨a, δ1⟩ := r1
  have n1 : 0 ≤ a ∧ a < 13 - ((mxM cs + 1 : Nat) : Int) := n1
  have d1 : 2 ≤ δ1.length := d1
  have o2 := off_eq (m := 13 - ((myM cs + 1 : Nat) : Int)) (δ := δ1) (by omega) (by omega) d1
  have n2 := off_nn (m := 13 - ((myM cs + 1 : Nat) : Int)) (δ := δ1) (by omega)
  have d2 := off_len (m := 13 - ((myM cs + 1 : Nat) : Int)) (δ := δ1) d1
  generalize offM (13 - ((myM cs + 1 : Nat) : Int)) δ1 = r2 at o2 n2 d2
  obtain ⟨b, δ2⟩ := r2
  have n2 : 0 ≤ b ∧ b < 13 - ((myM cs + 1 : Nat) : Int) := n2
  have d2 : 2 ≤ δ2.length := d2
  have o1 : G_l_off [.dice, .int (13 - ((mxM cs + 1 : Nat) : Int))] δ = some (.int a, δ1) := o1
  have o2 : G_l_off [.dice, .int (13 - ((myM cs + 1 : Nat) : Int))] δ1 = some (.int b, δ2) := o2
  obtain ⟨m, rfl⟩ := Int.eq_ofNat_of_zero_le n1.1
  obtain ⟨k, rfl⟩ := Int.eq_ofNat_of_zero_le n2.1
  have u1 : dMulU (.str (S [46])) (.int (m : Nat)) = some (.str (S (List.replicate m 46))) := by
    rw [dMulU_S (by omega) (by omega) (by decide) (by simp; omega)]
    simp
  have u2 : dLen [.str (S (List.replicate m 46))] = some (.int (m : Nat)) := by rw [dLen_S (by simp; omega), List.length_replicate]
  have u3 : dMulU (.str (S [46])) (.int (((mxM cs + 1 : Nat) : Int) + (m : Nat))) = some (.str (S (List.replicate (mxM cs + 1 + m) 46))) := by
    have e : ((mxM cs + 1 : Nat) : Int) + (m : Nat) = ((mxM cs + 1 + m : Nat) : Int) := by omega
    rw [e, dMulU_S (by omega) (by omega) (by decide) (by simp; omega), Int.toNat_natCast]
    simp only [List.flatten_replicate_singleton]
  have u4 : dMulU (.lst [.str (S (List.replicate (mxM cs + 1 + m) 46))]) (.int (k : Nat)) = some (.lst ((List.replicate k (List.replicate (mxM cs + 1 + m) 46)).map fun w => .str (S w))) := by
    rw [dMulU_l (by omega) (by omega) (by simp; omega)]
    simp
  have u5 : dAdd (.lst ((List.replicate k (List.replicate (mxM cs + 1 + m) 46)).map fun w => .str (S w))) (.lst ((rowsM cs (myM cs + 1) (mxM cs + 1)).map fun w => .str (S (w ++ List.replicate m 46)))) = some (.lst ((moreM (rowsM cs (myM cs + 1) (mxM cs + 1)) (mxM cs + 1) m k).map fun w => .str (S w))) := by
    rw [dAdd_l (by simp only [List.length_map, List.length_replicate, rl]; omega)]
    unfold moreM
    rw [List.map_append, List.map_map (l := rowsM cs (myM cs + 1) (mxM cs + 1))]
    rfl
  have mok : ∀ row ∈ moreM (rowsM cs (myM cs + 1) (mxM cs + 1)) (mxM cs + 1) m k, row.length = mxM cs + 1 + m ∧ row.all okS = true := by
    intro row h
    unfold moreM at h
    have rp : ∀ j : Nat, (List.replicate j 46).all okS = true := fun j => by rw [List.all_eq_true]; intro c hc; rw [List.eq_of_mem_replicate hc]; rfl
    rcases List.mem_append.mp h with h | h
    · rw [List.eq_of_mem_replicate h]
      exact ⟨List.length_replicate, rp _⟩
    · obtain ⟨r, hr, rfl⟩ := List.mem_map.mp h
      have := rok r hr
      rw [List.length_append, this.1, List.length_replicate, List.all_append, this.2, rp]
      exact ⟨rfl, rfl⟩
  have ml : (moreM (rowsM cs (myM cs + 1) (mxM cs + 1)) (mxM cs + 1) m k).length = k + (myM cs + 1) := by unfold moreM; simp [rl]
  have u6 : dJoin (.str (S [10])) (.lst ((moreM (rowsM cs (myM cs + 1) (mxM cs + 1)) (mxM cs + 1) m k).map fun w => .str (S w))) = some (.str (S (TL.joinL [10] (moreM (rowsM cs (myM cs + 1) (mxM cs + 1)) (mxM cs + 1) m k)))) := dJoin_sep (jl_ok (n := mxM cs + 1 + m) (by omega) (by omega) mok)
  have u7 : ∀ δ : List Int, G_p_read [.str (S (TL.joinL [10] (moreM (rowsM cs (myM cs + 1) (mxM cs + 1)) (mxM cs + 1) m k)))] δ = some (flD (sortP cs) w, δ) := fun δ =>
    read_perm (n := mxM cs + 1 + m) g (by omega) (by omega) (fun z => by rw [z] at ml; simp at ml) (by omega) mok fun p => by
      rw [mem_more, mem_cellsT]
      constructor
      · exact fun h => h.1
      · intro h
        have b := g.inb _ h
        unfold inB at b
        simp only [Bool.and_eq_true, decide_eq_true_eq] at b
        have l1 := maxI_le _ (List.mem_map.mpr ⟨p, h, rfl⟩ : p.1 ∈ cs.map (·.1))
        have l2 := maxI_le _ (List.mem_map.mpr ⟨p, h, rfl⟩ : p.2 ∈ cs.map (·.2))
        exact ⟨h, by omega, by omega, by omega, by omega⟩
  have l9 : (rowsM cs (myM cs + 1) (mxM cs + 1)).length < 1000000 := by omega
  refine ⟨.val (.lst ((rowsM cs (myM cs + 1) (mxM cs + 1)).map fun w => .str (S w))), .val (flD (sortP cs) w), .val (.int ((mxM cs + 1 : Nat) : Int)), .val (.str (S (List.replicate m 46))), .val (.lst ((List.replicate k (List.replicate (mxM cs + 1 + m) 46)).map fun w => .str (S w))), δ2, ?_, d2⟩
  unfold b_l_law_1
  clear rl ml
  and_intros
  rw [lc_mapf (φ := fun (w : List Nat) => .str (S (w ++ List.replicate m 46))) fun r hr => ⟨_, rfl, rfl, by
    have := rok r hr
    have ad := add31 (v := r) (w := List.replicate m 46) (by omega) (by simp; omega)
    and_intros⟩]
  and_intros
/-- what is drawn is a floor -/
theorem drawn_gf {most : Int} {δ : List Int} (h0 : 10 ≤ most) (h1 : most ≤ 40) (hd : 2 ≤ δ.length) : ∃ (cs : List P2) (w : List Nat) (δ' : List Int), G_l_cells [.dice, .int most] δ = some (.lst (cs.map pD), δ') ∧ Gf cs w ∧ 2 ≤ δ'.length := by
  obtain ⟨c0, t, δ1, ec, sh, ob, hle, d1⟩ := cells_eq (most := most) h0 (by omega) hd
  obtain ⟨w, hw⟩ := shp_rim sh t
  refine ⟨c0.map (mvd t), w, δ1, ec, ⟨?_, fun p hp => ?_, by simpa using sh.ne, by rw [List.length_map]; omega, hw⟩, d1⟩
  · exact List.pairwise_map.mpr (sh.nd.imp fun {a b} hab z => hab (mvd_inj.mp z))
  · obtain ⟨b1, b2, b3, b4⟩ := ob p hp
    unfold inB
    simp only [Bool.and_eq_true, decide_eq_true_eq]
    omega
theorem law_true (ns : List Int) (h : ns.length ≤ 63) : ∃ δ', g_l_law (startL N_l_law) (dice 0 ns) = some (.rt (.bl true) δ') := by
  have d0 : 2 ≤ (dice 0 ns).length := by simp [dice]
  generalize dice 0 ns = δ0 at d0
  have o1 := off_eq (m := 3) (δ := δ0) (by omega) (by omega) d0
  have d1 := off_len (m := 3) (δ := δ0) d0
  generalize offM 3 δ0 = r1 at o1 d1
  obtain ⟨a, δ1⟩ := r1
  have d1 : 2 ≤ δ1.length := d1
  have o1 : G_l_off [.dice, .int 3] δ0 = some (.int a, δ1) := o1
  obtain ⟨mo, hm, h10, h40⟩ : ∃ mo : Int, dIx (.lst [.int 20, .int 40]) (.int (if decide (a = 0) = true then 1 else 0)) = some (.int mo) ∧ 10 ≤ mo ∧ mo ≤ 40 := by
    by_cases ha : a = 0
    · rw [decide_eq_true ha]
      exact ⟨40, rfl, by omega, by omega⟩
    · rw [decide_eq_false ha]
      exact ⟨20, rfl, by omega, by omega⟩
  obtain ⟨c1, w1, δ2, e2, g1, d2⟩ := drawn_gf h10 h40 d1
  obtain ⟨c2, w2, δ3, e3, g2, d3⟩ := drawn_gf (most := 20) (by omega) (by omega) d2
  obtain ⟨t5, t6, t7, t8, t9, δ4, e4, d4⟩ := turn21 (L1 := .lst (c1.map pD)) (L2 := .lst (c2.map pD)) g1 d3 .un .un .un .un .un
  obtain ⟨u5, u6, u7, u8, u9, δ5, e5, d5⟩ := turn21 (L1 := .lst (c1.map pD)) (L2 := .lst (c2.map pD)) g2 d4 t5 t6 t7 t8 t9
  obtain ⟨v5, v6, v7, v8, v9, δ6, e6, d6⟩ := turn21 (L1 := .lst (c1.map pD)) (L2 := .lst (c2.map pD)) g1 d5 u5 u6 u7 u8 u9
  refine ⟨δ6, ?_⟩
  show g_l_law [.un, .val .dice, .un, .un, .un, .un, .un, .un, .un, .un, .un] δ0 = _
  have b0 := @dInt_b
  unfold g_l_law
  and_intros
end
end K21

namespace K21
open PySem PySem.Spec L2 Dl Cm
theorem rv_ref (t : Addr) : RelV (.ref t) (.ref t) := rfl
theorem rv_str (x : Str) (u : Tok) : RelV (.str x) (.str x u) := ⟨_, rfl⟩
theorem rv_int (i : Int) (u : Tok) : RelV (.int i) (.int i u) := ⟨_, rfl⟩
theorem all_mk {l : PySem.W.OpenLaw} {w : World} {K : PySem.W.Frag} {h : Heap} {mg : Str → Option Value} {fa : Addr} (X : K.In h) (G : h.Ns mainGlobals mg) (hfa : mg "law" = some (.ref fa))
    {C_Floor : Addr} (aC_Floor : PySem.W.nsIn K mainGlobals "Floor" = some (some (.ref C_Floor))) (pg_Floor : PySem.W.plainGet K C_Floor Str.empty = true) (hd_Floor : PySem.W.hasDictIn K C_Floor = true) (po_Floor : PySem.W.plainOver K C_Floor = true) (sa_Floor : PySem.W.findIn K (.ref C_Floor) "__setattr__" = some (some (.builtin "object.__setattr__"))) (mk_Floor : PySem.W.makesIn K C_Floor = true) (kc_Floor : PySem.W.keepIn K (.ref C_Floor) = true) (na_Floor__cells : PySem.W.findIn K (.ref C_Floor) "_cells" = some none) (na_Floor__first : PySem.W.findIn K (.ref C_Floor) "_first" = some none) (na_Floor__rim : PySem.W.findIn K (.ref C_Floor) "_rim" = some none)
    {f0 : Addr} {od0 an0 : Option Addr} {sl0 : Array (Option Value)} {oc0 kV0 dc0 pm0 cd0 ct0 : Value} (a0 : PySem.W.nsIn K mainGlobals "corners" = some (some (.ref f0))) (l0 : K.lookup f0 = some ⟨oc0, od0, .func (PySem.W.fnOf "corners" "corners" (defArgs s_p_corners) (defBody s_p_corners) (defScope s_p_corners) .none kV0 dc0 pm0 an0 cd0 ct0), sl0⟩) (c0 : PySem.W.codeIn K cd0 "corners" = true) (k0 : PySem.W.keepIn K (.ref f0) = true)
    {f1 : Addr} {od1 an1 : Option Addr} {sl1 : Array (Option Value)} {oc1 kV1 dc1 pm1 cd1 ct1 : Value} (a1 : PySem.W.nsIn K mainGlobals "check_cells" = some (some (.ref f1))) (l1 : K.lookup f1 = some ⟨oc1, od1, .func (PySem.W.fnOf "check_cells" "check_cells" (defArgs s_p_check_cells) (defBody s_p_check_cells) (defScope s_p_check_cells) .none kV1 dc1 pm1 an1 cd1 ct1), sl1⟩) (c1 : PySem.W.codeIn K cd1 "check_cells" = true) (k1 : PySem.W.keepIn K (.ref f1) = true)
    {f2 : Addr} {od2 an2 : Option Addr} {sl2 : Array (Option Value)} {oc2 kV2 dc2 pm2 cd2 ct2 : Value} (a2 : PySem.W.nsIn K mainGlobals "first_corner" = some (some (.ref f2))) (l2 : K.lookup f2 = some ⟨oc2, od2, .func (PySem.W.fnOf "first_corner" "first_corner" (defArgs s_p_first_corner) (defBody s_p_first_corner) (defScope s_p_first_corner) .none kV2 dc2 pm2 an2 cd2 ct2), sl2⟩) (c2 : PySem.W.codeIn K cd2 "first_corner" = true) (k2 : PySem.W.keepIn K (.ref f2) = true)
    {f3 : Addr} {od3 an3 : Option Addr} {sl3 : Array (Option Value)} {oc3 kV3 dc3 pm3 cd3 ct3 : Value} (a3 : PySem.W.nsIn K mainGlobals "rim_word" = some (some (.ref f3))) (l3 : K.lookup f3 = some ⟨oc3, od3, .func (PySem.W.fnOf "rim_word" "rim_word" (defArgs s_p_rim_word) (defBody s_p_rim_word) (defScope s_p_rim_word) .none kV3 dc3 pm3 an3 cd3 ct3), sl3⟩) (c3 : PySem.W.codeIn K cd3 "rim_word" = true) (k3 : PySem.W.keepIn K (.ref f3) = true)
    {f4 : Addr} {od4 an4 : Option Addr} {sl4 : Array (Option Value)} {oc4 kV4 dc4 pm4 cd4 ct4 : Value} (a4 : PySem.W.nsIn K mainGlobals "rim_steps" = some (some (.ref f4))) (l4 : K.lookup f4 = some ⟨oc4, od4, .func (PySem.W.fnOf "rim_steps" "rim_steps" (defArgs s_p_rim_steps) (defBody s_p_rim_steps) (defScope s_p_rim_steps) .none kV4 dc4 pm4 an4 cd4 ct4), sl4⟩) (c4 : PySem.W.codeIn K cd4 "rim_steps" = true) (k4 : PySem.W.keepIn K (.ref f4) = true)
    {f5 : Addr} {od5 an5 : Option Addr} {sl5 : Array (Option Value)} {oc5 kV5 dc5 pm5 cd5 ct5 : Value} (a5 : PySem.W.findIn K (.ref C_Floor) "__init__" = some (some (.ref f5))) (i5 : PySem.W.isFn K (.ref f5) = true) (l5 : K.lookup f5 = some ⟨oc5, od5, .func (PySem.W.fnOf "__init__" "Floor.__init__" (defArgs s_p_Floor_init) (defBody s_p_Floor_init) (defScope s_p_Floor_init) .none kV5 dc5 pm5 an5 cd5 ct5), sl5⟩) (c5 : PySem.W.codeIn K cd5 "Floor.__init__" = true) (k5 : PySem.W.keepIn K (.ref f5) = true)
    {f6 : Addr} {od6 an6 : Option Addr} {sl6 : Array (Option Value)} {oc6 kV6 dc6 pm6 cd6 ct6 : Value} (a6 : PySem.W.findIn K (.ref C_Floor) "cells" = some (some (.ref f6))) (i6 : PySem.W.isFn K (.ref f6) = true) (l6 : K.lookup f6 = some ⟨oc6, od6, .func (PySem.W.fnOf "cells" "Floor.cells" (defArgs s_p_Floor_cells) (defBody s_p_Floor_cells) (defScope s_p_Floor_cells) .none kV6 dc6 pm6 an6 cd6 ct6), sl6⟩) (c6 : PySem.W.codeIn K cd6 "Floor.cells" = true) (k6 : PySem.W.keepIn K (.ref f6) = true)
    {f7 : Addr} {od7 an7 : Option Addr} {sl7 : Array (Option Value)} {oc7 kV7 dc7 pm7 cd7 ct7 : Value} (a7 : PySem.W.findIn K (.ref C_Floor) "has" = some (some (.ref f7))) (i7 : PySem.W.isFn K (.ref f7) = true) (l7 : K.lookup f7 = some ⟨oc7, od7, .func (PySem.W.fnOf "has" "Floor.has" (defArgs s_p_Floor_has) (defBody s_p_Floor_has) (defScope s_p_Floor_has) .none kV7 dc7 pm7 an7 cd7 ct7), sl7⟩) (c7 : PySem.W.codeIn K cd7 "Floor.has" = true) (k7 : PySem.W.keepIn K (.ref f7) = true)
    {f8 : Addr} {od8 an8 : Option Addr} {sl8 : Array (Option Value)} {oc8 kV8 dc8 pm8 cd8 ct8 : Value} (a8 : PySem.W.findIn K (.ref C_Floor) "first" = some (some (.ref f8))) (i8 : PySem.W.isFn K (.ref f8) = true) (l8 : K.lookup f8 = some ⟨oc8, od8, .func (PySem.W.fnOf "first" "Floor.first" (defArgs s_p_Floor_first) (defBody s_p_Floor_first) (defScope s_p_Floor_first) .none kV8 dc8 pm8 an8 cd8 ct8), sl8⟩) (c8 : PySem.W.codeIn K cd8 "Floor.first" = true) (k8 : PySem.W.keepIn K (.ref f8) = true)
    {f9 : Addr} {od9 an9 : Option Addr} {sl9 : Array (Option Value)} {oc9 kV9 dc9 pm9 cd9 ct9 : Value} (a9 : PySem.W.findIn K (.ref C_Floor) "rim" = some (some (.ref f9))) (i9 : PySem.W.isFn K (.ref f9) = true) (l9 : K.lookup f9 = some ⟨oc9, od9, .func (PySem.W.fnOf "rim" "Floor.rim" (defArgs s_p_Floor_rim) (defBody s_p_Floor_rim) (defScope s_p_Floor_rim) .none kV9 dc9 pm9 an9 cd9 ct9), sl9⟩) (c9 : PySem.W.codeIn K cd9 "Floor.rim" = true) (k9 : PySem.W.keepIn K (.ref f9) = true)
    {f10 : Addr} {od10 an10 : Option Addr} {sl10 : Array (Option Value)} {oc10 kV10 dc10 pm10 cd10 ct10 : Value} (a10 : PySem.W.nsIn K mainGlobals "drawn_row" = some (some (.ref f10))) (l10 : K.lookup f10 = some ⟨oc10, od10, .func (PySem.W.fnOf "drawn_row" "drawn_row" (defArgs s_p_drawn_row) (defBody s_p_drawn_row) (defScope s_p_drawn_row) .none kV10 dc10 pm10 an10 cd10 ct10), sl10⟩) (c10 : PySem.W.codeIn K cd10 "drawn_row" = true) (k10 : PySem.W.keepIn K (.ref f10) = true)
    {f11 : Addr} {od11 an11 : Option Addr} {sl11 : Array (Option Value)} {oc11 kV11 dc11 pm11 cd11 ct11 : Value} (a11 : PySem.W.nsIn K mainGlobals "written" = some (some (.ref f11))) (l11 : K.lookup f11 = some ⟨oc11, od11, .func (PySem.W.fnOf "written" "written" (defArgs s_p_written) (defBody s_p_written) (defScope s_p_written) .none kV11 dc11 pm11 an11 cd11 ct11), sl11⟩) (c11 : PySem.W.codeIn K cd11 "written" = true) (k11 : PySem.W.keepIn K (.ref f11) = true)
    {f12 : Addr} {od12 an12 : Option Addr} {sl12 : Array (Option Value)} {oc12 kV12 dc12 pm12 cd12 ct12 : Value} (a12 : PySem.W.nsIn K mainGlobals "is_row" = some (some (.ref f12))) (l12 : K.lookup f12 = some ⟨oc12, od12, .func (PySem.W.fnOf "is_row" "is_row" (defArgs s_p_is_row) (defBody s_p_is_row) (defScope s_p_is_row) .none kV12 dc12 pm12 an12 cd12 ct12), sl12⟩) (c12 : PySem.W.codeIn K cd12 "is_row" = true) (k12 : PySem.W.keepIn K (.ref f12) = true)
    {f13 : Addr} {od13 an13 : Option Addr} {sl13 : Array (Option Value)} {oc13 kV13 dc13 pm13 cd13 ct13 : Value} (a13 : PySem.W.nsIn K mainGlobals "read" = some (some (.ref f13))) (l13 : K.lookup f13 = some ⟨oc13, od13, .func (PySem.W.fnOf "read" "read" (defArgs s_p_read) (defBody s_p_read) (defScope s_p_read) .none kV13 dc13 pm13 an13 cd13 ct13), sl13⟩) (c13 : PySem.W.codeIn K cd13 "read" = true) (k13 : PySem.W.keepIn K (.ref f13) = true)
    {f14 : Addr} {od14 an14 : Option Addr} {sl14 : Array (Option Value)} {oc14 kV14 dc14 pm14 cd14 ct14 : Value} (a14 : PySem.W.nsIn K mainGlobals "_law_dice" = some (some (.ref f14))) (l14 : K.lookup f14 = some ⟨oc14, od14, .func (PySem.W.fnOf "_law_dice" "_law_dice" (defArgs s_l_dice) (defBody s_l_dice) (defScope s_l_dice) .none kV14 dc14 pm14 an14 cd14 ct14), sl14⟩) (c14 : PySem.W.codeIn K cd14 "_law_dice" = true) (k14 : PySem.W.keepIn K (.ref f14) = true)
    {f15 : Addr} {od15 an15 : Option Addr} {sl15 : Array (Option Value)} {oc15 kV15 dc15 pm15 cd15 ct15 : Value} (a15 : PySem.W.nsIn K mainGlobals "_law_off" = some (some (.ref f15))) (l15 : K.lookup f15 = some ⟨oc15, od15, .func (PySem.W.fnOf "_law_off" "_law_off" (defArgs s_l_off) (defBody s_l_off) (defScope s_l_off) .none kV15 dc15 pm15 an15 cd15 ct15), sl15⟩) (c15 : PySem.W.codeIn K cd15 "_law_off" = true) (k15 : PySem.W.keepIn K (.ref f15) = true)
    {f16 : Addr} {od16 an16 : Option Addr} {sl16 : Array (Option Value)} {oc16 kV16 dc16 pm16 cd16 ct16 : Value} (a16 : PySem.W.nsIn K mainGlobals "_law_alike" = some (some (.ref f16))) (l16 : K.lookup f16 = some ⟨oc16, od16, .func (PySem.W.fnOf "_law_alike" "_law_alike" (defArgs s_l_alike) (defBody s_l_alike) (defScope s_l_alike) .none kV16 dc16 pm16 an16 cd16 ct16), sl16⟩) (c16 : PySem.W.codeIn K cd16 "_law_alike" = true) (k16 : PySem.W.keepIn K (.ref f16) = true)
    {f17 : Addr} {od17 an17 : Option Addr} {sl17 : Array (Option Value)} {oc17 kV17 dc17 pm17 cd17 ct17 : Value} (a17 : PySem.W.nsIn K mainGlobals "_law_next" = some (some (.ref f17))) (l17 : K.lookup f17 = some ⟨oc17, od17, .func (PySem.W.fnOf "_law_next" "_law_next" (defArgs s_l_next) (defBody s_l_next) (defScope s_l_next) .none kV17 dc17 pm17 an17 cd17 ct17), sl17⟩) (c17 : PySem.W.codeIn K cd17 "_law_next" = true) (k17 : PySem.W.keepIn K (.ref f17) = true)
    {f18 : Addr} {od18 an18 : Option Addr} {sl18 : Array (Option Value)} {oc18 kV18 dc18 pm18 cd18 ct18 : Value} (a18 : PySem.W.nsIn K mainGlobals "_law_beside" = some (some (.ref f18))) (l18 : K.lookup f18 = some ⟨oc18, od18, .func (PySem.W.fnOf "_law_beside" "_law_beside" (defArgs s_l_beside) (defBody s_l_beside) (defScope s_l_beside) .none kV18 dc18 pm18 an18 cd18 ct18), sl18⟩) (c18 : PySem.W.codeIn K cd18 "_law_beside" = true) (k18 : PySem.W.keepIn K (.ref f18) = true)
    {f19 : Addr} {od19 an19 : Option Addr} {sl19 : Array (Option Value)} {oc19 kV19 dc19 pm19 cd19 ct19 : Value} (a19 : PySem.W.nsIn K mainGlobals "_law_begin" = some (some (.ref f19))) (l19 : K.lookup f19 = some ⟨oc19, od19, .func (PySem.W.fnOf "_law_begin" "_law_begin" (defArgs s_l_begin) (defBody s_l_begin) (defScope s_l_begin) .none kV19 dc19 pm19 an19 cd19 ct19), sl19⟩) (c19 : PySem.W.codeIn K cd19 "_law_begin" = true) (k19 : PySem.W.keepIn K (.ref f19) = true)
    {f20 : Addr} {od20 an20 : Option Addr} {sl20 : Array (Option Value)} {oc20 kV20 dc20 pm20 cd20 ct20 : Value} (a20 : PySem.W.nsIn K mainGlobals "_law_rim" = some (some (.ref f20))) (l20 : K.lookup f20 = some ⟨oc20, od20, .func (PySem.W.fnOf "_law_rim" "_law_rim" (defArgs s_l_rim) (defBody s_l_rim) (defScope s_l_rim) .none kV20 dc20 pm20 an20 cd20 ct20), sl20⟩) (c20 : PySem.W.codeIn K cd20 "_law_rim" = true) (k20 : PySem.W.keepIn K (.ref f20) = true)
    {f21 : Addr} {od21 an21 : Option Addr} {sl21 : Array (Option Value)} {oc21 kV21 dc21 pm21 cd21 ct21 : Value} (a21 : PySem.W.nsIn K mainGlobals "_law_grown" = some (some (.ref f21))) (l21 : K.lookup f21 = some ⟨oc21, od21, .func (PySem.W.fnOf "_law_grown" "_law_grown" (defArgs s_l_grown) (defBody s_l_grown) (defScope s_l_grown) .none kV21 dc21 pm21 an21 cd21 ct21), sl21⟩) (c21 : PySem.W.codeIn K cd21 "_law_grown" = true) (k21 : PySem.W.keepIn K (.ref f21) = true)
    {f22 : Addr} {od22 an22 : Option Addr} {sl22 : Array (Option Value)} {oc22 kV22 dc22 pm22 cd22 ct22 : Value} (a22 : PySem.W.nsIn K mainGlobals "_law_block" = some (some (.ref f22))) (l22 : K.lookup f22 = some ⟨oc22, od22, .func (PySem.W.fnOf "_law_block" "_law_block" (defArgs s_l_block) (defBody s_l_block) (defScope s_l_block) .none kV22 dc22 pm22 an22 cd22 ct22), sl22⟩) (c22 : PySem.W.codeIn K cd22 "_law_block" = true) (k22 : PySem.W.keepIn K (.ref f22) = true)
    {f23 : Addr} {od23 an23 : Option Addr} {sl23 : Array (Option Value)} {oc23 kV23 dc23 pm23 cd23 ct23 : Value} (a23 : PySem.W.nsIn K mainGlobals "_law_shape" = some (some (.ref f23))) (l23 : K.lookup f23 = some ⟨oc23, od23, .func (PySem.W.fnOf "_law_shape" "_law_shape" (defArgs s_l_shape) (defBody s_l_shape) (defScope s_l_shape) .none kV23 dc23 pm23 an23 cd23 ct23), sl23⟩) (c23 : PySem.W.codeIn K cd23 "_law_shape" = true) (k23 : PySem.W.keepIn K (.ref f23) = true)
    {f24 : Addr} {od24 an24 : Option Addr} {sl24 : Array (Option Value)} {oc24 kV24 dc24 pm24 cd24 ct24 : Value} (a24 : PySem.W.nsIn K mainGlobals "_law_cells" = some (some (.ref f24))) (l24 : K.lookup f24 = some ⟨oc24, od24, .func (PySem.W.fnOf "_law_cells" "_law_cells" (defArgs s_l_cells) (defBody s_l_cells) (defScope s_l_cells) .none kV24 dc24 pm24 an24 cd24 ct24), sl24⟩) (c24 : PySem.W.codeIn K cd24 "_law_cells" = true) (k24 : PySem.W.keepIn K (.ref f24) = true)
    {f25 : Addr} {od25 an25 : Option Addr} {sl25 : Array (Option Value)} {oc25 kV25 dc25 pm25 cd25 ct25 : Value} (a25 : PySem.W.nsIn K mainGlobals "_law_text" = some (some (.ref f25))) (l25 : K.lookup f25 = some ⟨oc25, od25, .func (PySem.W.fnOf "_law_text" "_law_text" (defArgs s_l_text) (defBody s_l_text) (defScope s_l_text) .none kV25 dc25 pm25 an25 cd25 ct25), sl25⟩) (c25 : PySem.W.codeIn K cd25 "_law_text" = true) (k25 : PySem.W.keepIn K (.ref f25) = true)
    {f26 : Addr} {od26 an26 : Option Addr} {sl26 : Array (Option Value)} {oc26 kV26 dc26 pm26 cd26 ct26 : Value} (a26 : PySem.W.nsIn K mainGlobals "law" = some (some (.ref f26))) (l26 : K.lookup f26 = some ⟨oc26, od26, .func (PySem.W.fnOf "law" "law" (defArgs s_l_law) (defBody s_l_law) (defScope s_l_law) .none kV26 dc26 pm26 an26 cd26 ct26), sl26⟩) (c26 : PySem.W.codeIn K cd26 "law" = true) (k26 : PySem.W.keepIn K (.ref f26) = true)
    (z_abs : PySem.W.nsIn K mainGlobals "abs" = some none)
    (z_all : PySem.W.nsIn K mainGlobals "all" = some none)
    (z_bool : PySem.W.nsIn K mainGlobals "bool" = some none)
    (z_dict : PySem.W.nsIn K mainGlobals "dict" = some none)
    (z_enumerate : PySem.W.nsIn K mainGlobals "enumerate" = some none)
    (z_int : PySem.W.nsIn K mainGlobals "int" = some none)
    (z_isinstance : PySem.W.nsIn K mainGlobals "isinstance" = some none)
    (z_len : PySem.W.nsIn K mainGlobals "len" = some none)
    (z_list : PySem.W.nsIn K mainGlobals "list" = some none)
    (z_max : PySem.W.nsIn K mainGlobals "max" = some none)
    (z_min : PySem.W.nsIn K mainGlobals "min" = some none)
    (z_range : PySem.W.nsIn K mainGlobals "range" = some none)
    (z_set : PySem.W.nsIn K mainGlobals "set" = some none)
    (z_sorted : PySem.W.nsIn K mainGlobals "sorted" = some none)
    (z_str : PySem.W.nsIn K mainGlobals "str" = some none)
    (z_tuple : PySem.W.nsIn K mainGlobals "tuple" = some none)
    {a_MOVES : Addr} {es_MOVES : Array DictEntry} {n_MOVES : Nat} (g_MOVES : PySem.W.nsIn K mainGlobals "MOVES" = some (some (.ref a_MOVES))) (d_MOVES : K.lookup a_MOVES = some ⟨.type "dict", none, .dict es_MOVES n_MOVES, #[]⟩) (y_MOVES : PySem.W.KeysLit w.params es_MOVES.toList)
    {t_MOVES_0 : Addr} {dd_MOVES_0 : Option Addr} {m_MOVES_0 : Nat} {sl_MOVES_0 : Array (Option Value)} {k_MOVES_0_0 k_MOVES_0_1 : Tok} (e_MOVES_0 : PySem.W.nsIn K a_MOVES "e" = some (some (.ref t_MOVES_0))) (q_MOVES_0 : K.lookup t_MOVES_0 = some ⟨.type "tuple", dd_MOVES_0, .seq #[.int (1) k_MOVES_0_0, .int (0) k_MOVES_0_1] m_MOVES_0, sl_MOVES_0⟩)
    {t_MOVES_1 : Addr} {dd_MOVES_1 : Option Addr} {m_MOVES_1 : Nat} {sl_MOVES_1 : Array (Option Value)} {k_MOVES_1_0 k_MOVES_1_1 : Tok} (e_MOVES_1 : PySem.W.nsIn K a_MOVES "n" = some (some (.ref t_MOVES_1))) (q_MOVES_1 : K.lookup t_MOVES_1 = some ⟨.type "tuple", dd_MOVES_1, .seq #[.int (0) k_MOVES_1_0, .int (1) k_MOVES_1_1] m_MOVES_1, sl_MOVES_1⟩)
    {t_MOVES_2 : Addr} {dd_MOVES_2 : Option Addr} {m_MOVES_2 : Nat} {sl_MOVES_2 : Array (Option Value)} {k_MOVES_2_0 k_MOVES_2_1 : Tok} (e_MOVES_2 : PySem.W.nsIn K a_MOVES "w" = some (some (.ref t_MOVES_2))) (q_MOVES_2 : K.lookup t_MOVES_2 = some ⟨.type "tuple", dd_MOVES_2, .seq #[.int (-1) k_MOVES_2_0, .int (0) k_MOVES_2_1] m_MOVES_2, sl_MOVES_2⟩)
    {t_MOVES_3 : Addr} {dd_MOVES_3 : Option Addr} {m_MOVES_3 : Nat} {sl_MOVES_3 : Array (Option Value)} {k_MOVES_3_0 k_MOVES_3_1 : Tok} (e_MOVES_3 : PySem.W.nsIn K a_MOVES "s" = some (some (.ref t_MOVES_3))) (q_MOVES_3 : K.lookup t_MOVES_3 = some ⟨.type "tuple", dd_MOVES_3, .seq #[.int (0) k_MOVES_3_0, .int (-1) k_MOVES_3_1] m_MOVES_3, sl_MOVES_3⟩)
    {t_CELL : Tok} (g_CELL : PySem.W.nsIn K mainGlobals "CELL" = some (some (.str "#" t_CELL)))
    {t_EMPTY : Tok} (g_EMPTY : PySem.W.nsIn K mainGlobals "EMPTY" = some (some (.str "." t_EMPTY)))
    {t_LAST : Tok} (g_LAST : PySem.W.nsIn K mainGlobals "LAST" = some (some (.int (11) t_LAST)))
    {t_MOST_CELLS : Tok} (g_MOST_CELLS : PySem.W.nsIn K mainGlobals "MOST_CELLS" = some (some (.int (40) t_MOST_CELLS)))
    {t_MOST_ROWS : Tok} (g_MOST_ROWS : PySem.W.nsIn K mainGlobals "MOST_ROWS" = some (some (.int (12) t_MOST_ROWS)))
    {t_MOST_SIGNS : Tok} (g_MOST_SIGNS : PySem.W.nsIn K mainGlobals "MOST_SIGNS" = some (some (.int (12) t_MOST_SIGNS)))
    {t_SIDES : Addr} (g_SIDES : PySem.W.nsIn K mainGlobals "SIDES" = some (some (.ref t_SIDES)))
    {dd_SIDES : Option Addr} {m_SIDES : Nat} {sl_SIDES : Array (Option Value)} {t_SIDES_0 : Addr} {t_SIDES_1 : Addr} {t_SIDES_2 : Addr} {t_SIDES_3 : Addr} (q_SIDES : K.lookup t_SIDES = some ⟨.type "tuple", dd_SIDES, .seq #[.ref t_SIDES_0, .ref t_SIDES_1, .ref t_SIDES_2, .ref t_SIDES_3] m_SIDES, sl_SIDES⟩)
    {dd_SIDES_0 : Option Addr} {m_SIDES_0 : Nat} {sl_SIDES_0 : Array (Option Value)} {u_SIDES_0_0 : Tok} {t_SIDES_0_1 : Addr} {t_SIDES_0_2 : Addr} (q_SIDES_0 : K.lookup t_SIDES_0 = some ⟨.type "tuple", dd_SIDES_0, .seq #[.str "e" u_SIDES_0_0, .ref t_SIDES_0_1, .ref t_SIDES_0_2] m_SIDES_0, sl_SIDES_0⟩)
    {dd_SIDES_0_1 : Option Addr} {m_SIDES_0_1 : Nat} {sl_SIDES_0_1 : Array (Option Value)} {u_SIDES_0_1_0 : Tok} {u_SIDES_0_1_1 : Tok} (q_SIDES_0_1 : K.lookup t_SIDES_0_1 = some ⟨.type "tuple", dd_SIDES_0_1, .seq #[.int (0) u_SIDES_0_1_0, .int (0) u_SIDES_0_1_1] m_SIDES_0_1, sl_SIDES_0_1⟩)
    {dd_SIDES_0_2 : Option Addr} {m_SIDES_0_2 : Nat} {sl_SIDES_0_2 : Array (Option Value)} {u_SIDES_0_2_0 : Tok} {u_SIDES_0_2_1 : Tok} (q_SIDES_0_2 : K.lookup t_SIDES_0_2 = some ⟨.type "tuple", dd_SIDES_0_2, .seq #[.int (0) u_SIDES_0_2_0, .int (-1) u_SIDES_0_2_1] m_SIDES_0_2, sl_SIDES_0_2⟩)
    {dd_SIDES_1 : Option Addr} {m_SIDES_1 : Nat} {sl_SIDES_1 : Array (Option Value)} {u_SIDES_1_0 : Tok} {t_SIDES_1_1 : Addr} {t_SIDES_1_2 : Addr} (q_SIDES_1 : K.lookup t_SIDES_1 = some ⟨.type "tuple", dd_SIDES_1, .seq #[.str "n" u_SIDES_1_0, .ref t_SIDES_1_1, .ref t_SIDES_1_2] m_SIDES_1, sl_SIDES_1⟩)
    {dd_SIDES_1_1 : Option Addr} {m_SIDES_1_1 : Nat} {sl_SIDES_1_1 : Array (Option Value)} {u_SIDES_1_1_0 : Tok} {u_SIDES_1_1_1 : Tok} (q_SIDES_1_1 : K.lookup t_SIDES_1_1 = some ⟨.type "tuple", dd_SIDES_1_1, .seq #[.int (1) u_SIDES_1_1_0, .int (0) u_SIDES_1_1_1] m_SIDES_1_1, sl_SIDES_1_1⟩)
    {dd_SIDES_1_2 : Option Addr} {m_SIDES_1_2 : Nat} {sl_SIDES_1_2 : Array (Option Value)} {u_SIDES_1_2_0 : Tok} {u_SIDES_1_2_1 : Tok} (q_SIDES_1_2 : K.lookup t_SIDES_1_2 = some ⟨.type "tuple", dd_SIDES_1_2, .seq #[.int (1) u_SIDES_1_2_0, .int (0) u_SIDES_1_2_1] m_SIDES_1_2, sl_SIDES_1_2⟩)
    {dd_SIDES_2 : Option Addr} {m_SIDES_2 : Nat} {sl_SIDES_2 : Array (Option Value)} {u_SIDES_2_0 : Tok} {t_SIDES_2_1 : Addr} {t_SIDES_2_2 : Addr} (q_SIDES_2 : K.lookup t_SIDES_2 = some ⟨.type "tuple", dd_SIDES_2, .seq #[.str "w" u_SIDES_2_0, .ref t_SIDES_2_1, .ref t_SIDES_2_2] m_SIDES_2, sl_SIDES_2⟩)
    {dd_SIDES_2_1 : Option Addr} {m_SIDES_2_1 : Nat} {sl_SIDES_2_1 : Array (Option Value)} {u_SIDES_2_1_0 : Tok} {u_SIDES_2_1_1 : Tok} (q_SIDES_2_1 : K.lookup t_SIDES_2_1 = some ⟨.type "tuple", dd_SIDES_2_1, .seq #[.int (1) u_SIDES_2_1_0, .int (1) u_SIDES_2_1_1] m_SIDES_2_1, sl_SIDES_2_1⟩)
    {dd_SIDES_2_2 : Option Addr} {m_SIDES_2_2 : Nat} {sl_SIDES_2_2 : Array (Option Value)} {u_SIDES_2_2_0 : Tok} {u_SIDES_2_2_1 : Tok} (q_SIDES_2_2 : K.lookup t_SIDES_2_2 = some ⟨.type "tuple", dd_SIDES_2_2, .seq #[.int (0) u_SIDES_2_2_0, .int (1) u_SIDES_2_2_1] m_SIDES_2_2, sl_SIDES_2_2⟩)
    {dd_SIDES_3 : Option Addr} {m_SIDES_3 : Nat} {sl_SIDES_3 : Array (Option Value)} {u_SIDES_3_0 : Tok} {t_SIDES_3_1 : Addr} {t_SIDES_3_2 : Addr} (q_SIDES_3 : K.lookup t_SIDES_3 = some ⟨.type "tuple", dd_SIDES_3, .seq #[.str "s" u_SIDES_3_0, .ref t_SIDES_3_1, .ref t_SIDES_3_2] m_SIDES_3, sl_SIDES_3⟩)
    {dd_SIDES_3_1 : Option Addr} {m_SIDES_3_1 : Nat} {sl_SIDES_3_1 : Array (Option Value)} {u_SIDES_3_1_0 : Tok} {u_SIDES_3_1_1 : Tok} (q_SIDES_3_1 : K.lookup t_SIDES_3_1 = some ⟨.type "tuple", dd_SIDES_3_1, .seq #[.int (0) u_SIDES_3_1_0, .int (1) u_SIDES_3_1_1] m_SIDES_3_1, sl_SIDES_3_1⟩)
    {dd_SIDES_3_2 : Option Addr} {m_SIDES_3_2 : Nat} {sl_SIDES_3_2 : Array (Option Value)} {u_SIDES_3_2_0 : Tok} {u_SIDES_3_2_1 : Tok} (q_SIDES_3_2 : K.lookup t_SIDES_3_2 = some ⟨.type "tuple", dd_SIDES_3_2, .seq #[.int (-1) u_SIDES_3_2_0, .int (0) u_SIDES_3_2_1] m_SIDES_3_2, sl_SIDES_3_2⟩) :
    ∃ fd : FuncData, (∀ (s : Shared) (v : Value), BindsTo s fd ⟨[v], []⟩ [("_law_script", v)]) ∧ ∀ base : Heap, K.In base → base.Ns mainGlobals mg → FnOk l.prog w K mg base CX0 6 fa fd ["_law_script"] (spLaw K) := by
  have e := hfa.symm.trans (PySem.W.mg_of X G a26)
  cases e
  have T_Floor : CF_Floor K mg C_Floor := ⟨⟨PySem.W.mg_of X G aC_Floor, ⟨pg_Floor, hd_Floor, po_Floor, sa_Floor⟩⟩, na_Floor__cells, na_Floor__first, na_Floor__rim⟩
  have F0 := fun_mk (st := s_p_corners) l0 c0 k0
  have h0 : Has K mg "corners" s_p_corners ["corner", "word"] _ _ := ⟨F0, PySem.W.mg_of X G a0, F0.binds (ps := ["corner", "word"]) fun _ _ _ _ _ _ us hl => match us, hl with | [_, _], _ => rfl⟩
  have F1 := fun_mk (st := s_p_check_cells) l1 c1 k1
  have h1 : Has K mg "check_cells" s_p_check_cells ["cells"] _ _ := ⟨F1, PySem.W.mg_of X G a1, F1.binds (ps := ["cells"]) fun _ _ _ _ _ _ us hl => match us, hl with | [_], _ => rfl⟩
  have F2 := fun_mk (st := s_p_first_corner) l2 c2 k2
  have h2 : Has K mg "first_corner" s_p_first_corner ["cells"] _ _ := ⟨F2, PySem.W.mg_of X G a2, F2.binds (ps := ["cells"]) fun _ _ _ _ _ _ us hl => match us, hl with | [_], _ => rfl⟩
  have F3 := fun_mk (st := s_p_rim_word) l3 c3 k3
  have h3 : Has K mg "rim_word" s_p_rim_word ["first", "leaving"] _ _ := ⟨F3, PySem.W.mg_of X G a3, F3.binds (ps := ["first", "leaving"]) fun _ _ _ _ _ _ us hl => match us, hl with | [_, _], _ => rfl⟩
  have F4 := fun_mk (st := s_p_rim_steps) l4 c4 k4
  have h4 : Has K mg "rim_steps" s_p_rim_steps ["held"] _ _ := ⟨F4, PySem.W.mg_of X G a4, F4.binds (ps := ["held"]) fun _ _ _ _ _ _ us hl => match us, hl with | [_], _ => rfl⟩
  have F5 := fun_mk (st := s_p_Floor_init) l5 c5 k5
  have h5 : HasI K C_Floor "Floor.__init__" s_p_Floor_init ["self", "cells"] _ _ := ⟨F5, ⟨mk_Floor, a5, i5, kc_Floor⟩, F5.binds (ps := ["self", "cells"]) fun _ _ _ _ _ _ us hl => match us, hl with | [_, _], _ => rfl⟩
  have F6 := fun_mk (st := s_p_Floor_cells) l6 c6 k6
  have h6 : HasM K C_Floor "cells" "Floor.cells" s_p_Floor_cells ["self"] _ _ := ⟨F6, ⟨a6, i6, k6⟩, F6.binds (ps := ["self"]) fun _ _ _ _ _ _ us hl => match us, hl with | [_], _ => rfl⟩
  have F7 := fun_mk (st := s_p_Floor_has) l7 c7 k7
  have h7 : HasM K C_Floor "has" "Floor.has" s_p_Floor_has ["self", "x", "y"] _ _ := ⟨F7, ⟨a7, i7, k7⟩, F7.binds (ps := ["self", "x", "y"]) fun _ _ _ _ _ _ us hl => match us, hl with | [_, _, _], _ => rfl⟩
  have F8 := fun_mk (st := s_p_Floor_first) l8 c8 k8
  have h8 : HasM K C_Floor "first" "Floor.first" s_p_Floor_first ["self"] _ _ := ⟨F8, ⟨a8, i8, k8⟩, F8.binds (ps := ["self"]) fun _ _ _ _ _ _ us hl => match us, hl with | [_], _ => rfl⟩
  have F9 := fun_mk (st := s_p_Floor_rim) l9 c9 k9
  have h9 : HasM K C_Floor "rim" "Floor.rim" s_p_Floor_rim ["self"] _ _ := ⟨F9, ⟨a9, i9, k9⟩, F9.binds (ps := ["self"]) fun _ _ _ _ _ _ us hl => match us, hl with | [_], _ => rfl⟩
  have F10 := fun_mk (st := s_p_drawn_row) l10 c10 k10
  have h10 : Has K mg "drawn_row" s_p_drawn_row ["floor", "y", "wide"] _ _ := ⟨F10, PySem.W.mg_of X G a10, F10.binds (ps := ["floor", "y", "wide"]) fun _ _ _ _ _ _ us hl => match us, hl with | [_, _, _], _ => rfl⟩
  have F11 := fun_mk (st := s_p_written) l11 c11 k11
  have h11 : Has K mg "written" s_p_written ["floor"] _ _ := ⟨F11, PySem.W.mg_of X G a11, F11.binds (ps := ["floor"]) fun _ _ _ _ _ _ us hl => match us, hl with | [_], _ => rfl⟩
  have F12 := fun_mk (st := s_p_is_row) l12 c12 k12
  have h12 : Has K mg "is_row" s_p_is_row ["row", "many"] _ _ := ⟨F12, PySem.W.mg_of X G a12, F12.binds (ps := ["row", "many"]) fun _ _ _ _ _ _ us hl => match us, hl with | [_, _], _ => rfl⟩
  have F13 := fun_mk (st := s_p_read) l13 c13 k13
  have h13 : Has K mg "read" s_p_read ["text"] _ _ := ⟨F13, PySem.W.mg_of X G a13, F13.binds (ps := ["text"]) fun _ _ _ _ _ _ us hl => match us, hl with | [_], _ => rfl⟩
  have F14 := fun_mk (st := s_l_dice) l14 c14 k14
  have h14 : Has K mg "_law_dice" s_l_dice ["_law_script", "_law_k"] _ _ := ⟨F14, PySem.W.mg_of X G a14, F14.binds (ps := ["_law_script", "_law_k"]) fun _ _ _ _ _ _ us hl => match us, hl with | [_, _], _ => rfl⟩
  have F15 := fun_mk (st := s_l_off) l15 c15 k15
  have h15 : Has K mg "_law_off" s_l_off ["_law_d", "_law_most"] _ _ := ⟨F15, PySem.W.mg_of X G a15, F15.binds (ps := ["_law_d", "_law_most"]) fun _ _ _ _ _ _ us hl => match us, hl with | [_, _], _ => rfl⟩
  have F16 := fun_mk (st := s_l_alike) l16 c16 k16
  have h16 : Has K mg "_law_alike" s_l_alike ["_law_found", "_law_due"] _ _ := ⟨F16, PySem.W.mg_of X G a16, F16.binds (ps := ["_law_found", "_law_due"]) fun _ _ _ _ _ _ us hl => match us, hl with | [_, _], _ => rfl⟩
  have F17 := fun_mk (st := s_l_next) l17 c17 k17
  have h17 : Has K mg "_law_next" s_l_next ["_law_corner", "_law_letter"] _ _ := ⟨F17, PySem.W.mg_of X G a17, F17.binds (ps := ["_law_corner", "_law_letter"]) fun _ _ _ _ _ _ us hl => match us, hl with | [_, _], _ => rfl⟩
  have F18 := fun_mk (st := s_l_beside) l18 c18 k18
  have h18 : Has K mg "_law_beside" s_l_beside ["_law_corner", "_law_letter"] _ _ := ⟨F18, PySem.W.mg_of X G a18, F18.binds (ps := ["_law_corner", "_law_letter"]) fun _ _ _ _ _ _ us hl => match us, hl with | [_, _], _ => rfl⟩
  have F19 := fun_mk (st := s_l_begin) l19 c19 k19
  have h19 : Has K mg "_law_begin" s_l_begin ["_law_cells_here"] _ _ := ⟨F19, PySem.W.mg_of X G a19, F19.binds (ps := ["_law_cells_here"]) fun _ _ _ _ _ _ us hl => match us, hl with | [_], _ => rfl⟩
  have F20 := fun_mk (st := s_l_rim) l20 c20 k20
  have h20 : Has K mg "_law_rim" s_l_rim ["_law_cells_here"] _ _ := ⟨F20, PySem.W.mg_of X G a20, F20.binds (ps := ["_law_cells_here"]) fun _ _ _ _ _ _ us hl => match us, hl with | [_], _ => rfl⟩
  have F21 := fun_mk (st := s_l_grown) l21 c21 k21
  have h21 : Has K mg "_law_grown" s_l_grown ["_law_d", "_law_most", "_law_place"] _ _ := ⟨F21, PySem.W.mg_of X G a21, F21.binds (ps := ["_law_d", "_law_most", "_law_place"]) fun _ _ _ _ _ _ us hl => match us, hl with | [_, _, _], _ => rfl⟩
  have F22 := fun_mk (st := s_l_block) l22 c22 k22
  have h22 : Has K mg "_law_block" s_l_block ["_law_x", "_law_y", "_law_wide", "_law_high"] _ _ := ⟨F22, PySem.W.mg_of X G a22, F22.binds (ps := ["_law_x", "_law_y", "_law_wide", "_law_high"]) fun _ _ _ _ _ _ us hl => match us, hl with | [_, _, _, _], _ => rfl⟩
  have F23 := fun_mk (st := s_l_shape) l23 c23 k23
  have h23 : Has K mg "_law_shape" s_l_shape ["_law_d", "_law_most"] _ _ := ⟨F23, PySem.W.mg_of X G a23, F23.binds (ps := ["_law_d", "_law_most"]) fun _ _ _ _ _ _ us hl => match us, hl with | [_, _], _ => rfl⟩
  have F24 := fun_mk (st := s_l_cells) l24 c24 k24
  have h24 : Has K mg "_law_cells" s_l_cells ["_law_d", "_law_most"] _ _ := ⟨F24, PySem.W.mg_of X G a24, F24.binds (ps := ["_law_d", "_law_most"]) fun _ _ _ _ _ _ us hl => match us, hl with | [_, _], _ => rfl⟩
  have F25 := fun_mk (st := s_l_text) l25 c25 k25
  have h25 : Has K mg "_law_text" s_l_text ["_law_cells_here"] _ _ := ⟨F25, PySem.W.mg_of X G a25, F25.binds (ps := ["_law_cells_here"]) fun _ _ _ _ _ _ us hl => match us, hl with | [_], _ => rfl⟩
  have F26 := fun_mk (st := s_l_law) l26 c26 k26
  have h26 : Has K mg "law" s_l_law ["_law_script"] _ _ := ⟨F26, PySem.W.mg_of X G a26, F26.binds (ps := ["_law_script"]) fun _ _ _ _ _ _ us hl => match us, hl with | [_], _ => rfl⟩
  have C_MOVES : KdO K w mg "MOVES" a_MOVES tbl_MOVES := ⟨PySem.W.mg_of X G g_MOVES, fun z y hz => by
    unfold tbl_MOVES at hz
    split at hz
    · rename_i ez
      subst ez
      cases hz
      exact ⟨.ref t_MOVES_0, ⟨_, _, _, d_MOVES, y_MOVES, e_MOVES_0, rfl⟩, rpTup2 q_MOVES_0⟩
    ·
      split at hz
      · rename_i ez
        subst ez
        cases hz
        exact ⟨.ref t_MOVES_1, ⟨_, _, _, d_MOVES, y_MOVES, e_MOVES_1, rfl⟩, rpTup2 q_MOVES_1⟩
      ·
        split at hz
        · rename_i ez
          subst ez
          cases hz
          exact ⟨.ref t_MOVES_2, ⟨_, _, _, d_MOVES, y_MOVES, e_MOVES_2, rfl⟩, rpTup2 q_MOVES_2⟩
        ·
          split at hz
          · rename_i ez
            subst ez
            cases hz
            exact ⟨.ref t_MOVES_3, ⟨_, _, _, d_MOVES, y_MOVES, e_MOVES_3, rfl⟩, rpTup2 q_MOVES_3⟩
          ·
            cases hz⟩
  have K_CELL : GlS mg "CELL" "#" := ⟨_, PySem.W.mg_of X G g_CELL⟩
  have K_EMPTY : GlS mg "EMPTY" "." := ⟨_, PySem.W.mg_of X G g_EMPTY⟩
  have K_LAST : GlI mg "LAST" (11) := ⟨_, PySem.W.mg_of X G g_LAST⟩
  have K_MOST_CELLS : GlI mg "MOST_CELLS" (40) := ⟨_, PySem.W.mg_of X G g_MOST_CELLS⟩
  have K_MOST_ROWS : GlI mg "MOST_ROWS" (12) := ⟨_, PySem.W.mg_of X G g_MOST_ROWS⟩
  have K_MOST_SIGNS : GlI mg "MOST_SIGNS" (12) := ⟨_, PySem.W.mg_of X G g_MOST_SIGNS⟩
  have K_SIDES : GlT K mg "SIDES" t_SIDES tup_SIDES := ⟨PySem.W.mg_of X G g_SIDES, fun d N H => rp_ctup q_SIDES (Nat.le_of_ble_eq_true rfl) (.cons (rv_ref t_SIDES_0) (.cons (rv_ref t_SIDES_1) (.cons (rv_ref t_SIDES_2) (.cons (rv_ref t_SIDES_3) (.nil))))) d N H (.cons (rp_ctup q_SIDES_0 (Nat.le_of_ble_eq_true rfl) (.cons (rv_str "e" u_SIDES_0_0) (.cons (rv_ref t_SIDES_0_1) (.cons (rv_ref t_SIDES_0_2) (.nil)))) d N H (.cons (.str _) (.cons (rp_ctup q_SIDES_0_1 (Nat.le_of_ble_eq_true rfl) (.cons (rv_int (0) u_SIDES_0_1_0) (.cons (rv_int (0) u_SIDES_0_1_1) (.nil))) d N H (.cons (.int _) (.cons (.int _) (.nil)))) (.cons (rp_ctup q_SIDES_0_2 (Nat.le_of_ble_eq_true rfl) (.cons (rv_int (0) u_SIDES_0_2_0) (.cons (rv_int (-1) u_SIDES_0_2_1) (.nil))) d N H (.cons (.int _) (.cons (.int _) (.nil)))) (.nil))))) (.cons (rp_ctup q_SIDES_1 (Nat.le_of_ble_eq_true rfl) (.cons (rv_str "n" u_SIDES_1_0) (.cons (rv_ref t_SIDES_1_1) (.cons (rv_ref t_SIDES_1_2) (.nil)))) d N H (.cons (.str _) (.cons (rp_ctup q_SIDES_1_1 (Nat.le_of_ble_eq_true rfl) (.cons (rv_int (1) u_SIDES_1_1_0) (.cons (rv_int (0) u_SIDES_1_1_1) (.nil))) d N H (.cons (.int _) (.cons (.int _) (.nil)))) (.cons (rp_ctup q_SIDES_1_2 (Nat.le_of_ble_eq_true rfl) (.cons (rv_int (1) u_SIDES_1_2_0) (.cons (rv_int (0) u_SIDES_1_2_1) (.nil))) d N H (.cons (.int _) (.cons (.int _) (.nil)))) (.nil))))) (.cons (rp_ctup q_SIDES_2 (Nat.le_of_ble_eq_true rfl) (.cons (rv_str "w" u_SIDES_2_0) (.cons (rv_ref t_SIDES_2_1) (.cons (rv_ref t_SIDES_2_2) (.nil)))) d N H (.cons (.str _) (.cons (rp_ctup q_SIDES_2_1 (Nat.le_of_ble_eq_true rfl) (.cons (rv_int (1) u_SIDES_2_1_0) (.cons (rv_int (1) u_SIDES_2_1_1) (.nil))) d N H (.cons (.int _) (.cons (.int _) (.nil)))) (.cons (rp_ctup q_SIDES_2_2 (Nat.le_of_ble_eq_true rfl) (.cons (rv_int (0) u_SIDES_2_2_0) (.cons (rv_int (1) u_SIDES_2_2_1) (.nil))) d N H (.cons (.int _) (.cons (.int _) (.nil)))) (.nil))))) (.cons (rp_ctup q_SIDES_3 (Nat.le_of_ble_eq_true rfl) (.cons (rv_str "s" u_SIDES_3_0) (.cons (rv_ref t_SIDES_3_1) (.cons (rv_ref t_SIDES_3_2) (.nil)))) d N H (.cons (.str _) (.cons (rp_ctup q_SIDES_3_1 (Nat.le_of_ble_eq_true rfl) (.cons (rv_int (0) u_SIDES_3_1_0) (.cons (rv_int (1) u_SIDES_3_1_1) (.nil))) d N H (.cons (.int _) (.cons (.int _) (.nil)))) (.cons (rp_ctup q_SIDES_3_2 (Nat.le_of_ble_eq_true rfl) (.cons (rv_int (-1) u_SIDES_3_2_0) (.cons (rv_int (0) u_SIDES_3_2_1) (.nil))) d N H (.cons (.int _) (.cons (.int _) (.nil)))) (.nil))))) (.nil)))))⟩
  have Z : Zs mg := ⟨PySem.W.mg_none_of X G z_abs, PySem.W.mg_none_of X G z_all, PySem.W.mg_none_of X G z_bool, PySem.W.mg_none_of X G z_dict, PySem.W.mg_none_of X G z_enumerate, PySem.W.mg_none_of X G z_int, PySem.W.mg_none_of X G z_isinstance, PySem.W.mg_none_of X G z_len, PySem.W.mg_none_of X G z_list, PySem.W.mg_none_of X G z_max, PySem.W.mg_none_of X G z_min, PySem.W.mg_none_of X G z_range, PySem.W.mg_none_of X G z_set, PySem.W.mg_none_of X G z_sorted, PySem.W.mg_none_of X G z_str, PySem.W.mg_none_of X G z_tuple⟩

  refine ⟨PySem.W.fnOf "law" "law" (defArgs s_l_law) (defBody s_l_law) (defScope s_l_law) .none kV26 dc26 pm26 an26 cd26 ct26, fun s v => .of_eq rfl, fun base _ _ => ?_⟩
  have c_p_corners := ok_p_corners (P := l.prog) (w := w) (base := base) h0 Z C_MOVES
  have c_p_check_cells := ok_p_check_cells (P := l.prog) (w := w) (base := base) h1 Z K_LAST K_MOST_CELLS
  have c_p_first_corner := ok_p_first_corner (P := l.prog) (w := w) (base := base) h2 Z 
  have c_p_rim_word := ok_p_rim_word (P := l.prog) (w := w) (base := base) h3 Z c_p_corners
  have c_p_rim_steps := ok_p_rim_steps (P := l.prog) (w := w) (base := base) h4 Z K_SIDES
  have c_p_Floor_init := ok_p_Floor_init (P := l.prog) (w := w) (base := base) h5 Z T_Floor c_p_check_cells c_p_first_corner c_p_rim_steps c_p_rim_word
  have c_p_Floor_cells := ok_p_Floor_cells (P := l.prog) (w := w) (base := base) h6 Z T_Floor
  have c_p_Floor_has := ok_p_Floor_has (P := l.prog) (w := w) (base := base) h7 Z T_Floor
  have c_p_Floor_first := ok_p_Floor_first (P := l.prog) (w := w) (base := base) h8 Z T_Floor
  have c_p_Floor_rim := ok_p_Floor_rim (P := l.prog) (w := w) (base := base) h9 Z T_Floor
  have c_p_drawn_row := ok_p_drawn_row (P := l.prog) (w := w) (base := base) h10 Z T_Floor c_p_Floor_has K_CELL K_EMPTY
  have c_p_written := ok_p_written (P := l.prog) (w := w) (base := base) h11 Z T_Floor c_p_Floor_cells c_p_drawn_row
  have c_p_is_row := ok_p_is_row (P := l.prog) (w := w) (base := base) h12 Z K_CELL K_EMPTY K_MOST_SIGNS
  have c_p_read := ok_p_read (P := l.prog) (w := w) (base := base) h13 Z T_Floor c_p_is_row c_p_Floor_init K_CELL K_MOST_ROWS
  have c_l_off := ok_l_off (P := l.prog) (w := w) (base := base) h15 Z 
  have c_l_alike := ok_l_alike (P := l.prog) (w := w) (base := base) h16 Z  4
  have c_l_next := ok_l_next (P := l.prog) (w := w) (base := base) h17 Z 
  have c_l_beside := ok_l_beside (P := l.prog) (w := w) (base := base) h18 Z 
  have c_l_begin := ok_l_begin (P := l.prog) (w := w) (base := base) h19 Z 
  have c_l_rim := ok_l_rim (P := l.prog) (w := w) (base := base) h20 Z c_l_begin c_l_beside c_l_next
  have c_l_grown := ok_l_grown (P := l.prog) (w := w) (base := base) h21 Z c_l_off c_l_rim
  have c_l_block := ok_l_block (P := l.prog) (w := w) (base := base) h22 Z 
  have c_l_shape := ok_l_shape (P := l.prog) (w := w) (base := base) h23 Z c_l_off c_l_grown c_l_block c_l_rim
  have c_l_cells := ok_l_cells (P := l.prog) (w := w) (base := base) h24 Z c_l_shape c_l_off
  have c_l_text := ok_l_text (P := l.prog) (w := w) (base := base) h25 Z 
  exact ok_l_law (P := l.prog) (w := w) (base := base) h26 Z T_Floor c_l_off c_l_cells c_l_text c_p_Floor_init c_p_written c_l_alike c_p_read c_p_Floor_cells  h14 law_true
theorem walk {l : PySem.W.OpenLaw} {q : Program} {loose : List Str} {XP : (Str → Option Value) → Heap → Prop} {YP : World → Heap → Prop} {d : DefRec} {K : Params → PySem.W.Frag} (hn : l.most = some 63) (hdf : d.params.defaults = [])
    (hY : ∀ (w : World) (h : Heap), YP w h → (K w.params).In h)
    (F : ∀ (w : World) (mg : Str → Option Value) (fa : Addr) (h : Heap), (K w.params).In h → h.Ns mainGlobals mg → mg d.name = some (.ref fa) →
      ∃ fd : FuncData, (∀ (s : Shared) (u : Value), BindsTo s fd ⟨[u], []⟩ [("_law_script", u)]) ∧ ∀ base : Heap, (K w.params).In base → base.Ns mainGlobals mg → FnOk l.prog w (K w.params) mg base CX0 6 fa fd ["_law_script"] (spLaw (K w.params))) :
    PySem.W.WalkO q loose XP YP l.row.toRowW d [] (fun f vs => PySem.call f vs) :=
  L2.walk_of (n := 63) (k := 6) (x := "_law_script") (CX := fun _ => CX0) (sp := fun w => spLaw (K w.params)) hn (by rw [sizeLine_eq]; decide) hdf ⟨rfl, by decide, by decide⟩ hY F (fun _ _ a ns hl _ hS => ⟨a, ns, rfl, hS, hl, fun _ => rfl⟩) fun _ _ _ _ _ z => z
end K21
open PySem PySem.W PyProof.Rows
set_option maxRecDepth 100000 in
set_option maxHeartbeats 0 in
theorem PySem.Challenge.cw_rimword_k21_whole_drawn_and_read_holds : PySem.Challenge.rw_rimword_k21_whole_drawn_and_read.Holds := by
  w_on; o_law; k_head; (case hw => w_witness2)
  k_fill
  refine K21.walk (l := PySem.Challenge.rw_rimword_k21_whole_drawn_and_read) rfl rfl (fun w h Y => PySem.W.kIn_of Y) ?F
  case F =>
    intro w mg fa h KX G hmg
    refine' K21.all_mk KX G hmg ?aC_Floor ?pg_Floor ?hd_Floor ?po_Floor ?sa_Floor ?mk_Floor ?kc_Floor ?na_Floor__cells ?na_Floor__first ?na_Floor__rim ?a0 ?l0 ?c0 ?k0 ?a1 ?l1 ?c1 ?k1 ?a2 ?l2 ?c2 ?k2 ?a3 ?l3 ?c3 ?k3 ?a4 ?l4 ?c4 ?k4 ?a5 ?i5 ?l5 ?c5 ?k5 ?a6 ?i6 ?l6 ?c6 ?k6 ?a7 ?i7 ?l7 ?c7 ?k7 ?a8 ?i8 ?l8 ?c8 ?k8 ?a9 ?i9 ?l9 ?c9 ?k9 ?a10 ?l10 ?c10 ?k10 ?a11 ?l11 ?c11 ?k11 ?a12 ?l12 ?c12 ?k12 ?a13 ?l13 ?c13 ?k13 ?a14 ?l14 ?c14 ?k14 ?a15 ?l15 ?c15 ?k15 ?a16 ?l16 ?c16 ?k16 ?a17 ?l17 ?c17 ?k17 ?a18 ?l18 ?c18 ?k18 ?a19 ?l19 ?c19 ?k19 ?a20 ?l20 ?c20 ?k20 ?a21 ?l21 ?c21 ?k21 ?a22 ?l22 ?c22 ?k22 ?a23 ?l23 ?c23 ?k23 ?a24 ?l24 ?c24 ?k24 ?a25 ?l25 ?c25 ?k25 ?a26 ?l26 ?c26 ?k26 ?z_abs ?z_all ?z_bool ?z_dict ?z_enumerate ?z_int ?z_isinstance ?z_len ?z_list ?z_max ?z_min ?z_range ?z_set ?z_sorted ?z_str ?z_tuple ?g_MOVES ?d_MOVES ?y_MOVES ?e_MOVES_0 ?q_MOVES_0 ?e_MOVES_1 ?q_MOVES_1 ?e_MOVES_2 ?q_MOVES_2 ?e_MOVES_3 ?q_MOVES_3 ?g_CELL ?g_EMPTY ?g_LAST ?g_MOST_CELLS ?g_MOST_ROWS ?g_MOST_SIGNS ?g_SIDES ?q_SIDES ?q_SIDES_0 ?q_SIDES_0_1 ?q_SIDES_0_2 ?q_SIDES_1 ?q_SIDES_1_1 ?q_SIDES_1_2 ?q_SIDES_2 ?q_SIDES_2_1 ?q_SIDES_2_2 ?q_SIDES_3 ?q_SIDES_3_1 ?q_SIDES_3_2
    (case aC_Floor => k_is)
    (case pg_Floor => k_is)
    (case hd_Floor => k_is)
    (case po_Floor => k_is)
    (case sa_Floor => k_is)
    (case mk_Floor => k_is)
    (case kc_Floor => k_is)
    (case na_Floor__cells => k_is)
    (case na_Floor__first => k_is)
    (case na_Floor__rim => k_is)
    (case a0 => k_is)
    (case l0 => k_is)
    (case c0 => k_is)
    (case k0 => k_is)
    (case a1 => k_is)
    (case l1 => k_is)
    (case c1 => k_is)
    (case k1 => k_is)
    (case a2 => k_is)
    (case l2 => k_is)
    (case c2 => k_is)
    (case k2 => k_is)
    (case a3 => k_is)
    (case l3 => k_is)
    (case c3 => k_is)
    (case k3 => k_is)
    (case a4 => k_is)
    (case l4 => k_is)
    (case c4 => k_is)
    (case k4 => k_is)
    (case a5 => k_is)
    (case i5 => k_is)
    (case l5 => k_is)
    (case c5 => k_is)
    (case k5 => k_is)
    (case a6 => k_is)
    (case i6 => k_is)
    (case l6 => k_is)
    (case c6 => k_is)
    (case k6 => k_is)
    (case a7 => k_is)
    (case i7 => k_is)
    (case l7 => k_is)
    (case c7 => k_is)
    (case k7 => k_is)
    (case a8 => k_is)
    (case i8 => k_is)
    (case l8 => k_is)
    (case c8 => k_is)
    (case k8 => k_is)
    (case a9 => k_is)
    (case i9 => k_is)
    (case l9 => k_is)
    (case c9 => k_is)
    (case k9 => k_is)
    (case a10 => k_is)
    (case l10 => k_is)
    (case c10 => k_is)
    (case k10 => k_is)
    (case a11 => k_is)
    (case l11 => k_is)
    (case c11 => k_is)
    (case k11 => k_is)
    (case a12 => k_is)
    (case l12 => k_is)
    (case c12 => k_is)
    (case k12 => k_is)
    (case a13 => k_is)
    (case l13 => k_is)
    (case c13 => k_is)
    (case k13 => k_is)
    (case a14 => k_is)
    (case l14 => k_is)
    (case c14 => k_is)
    (case k14 => k_is)
    (case a15 => k_is)
    (case l15 => k_is)
    (case c15 => k_is)
    (case k15 => k_is)
    (case a16 => k_is)
    (case l16 => k_is)
    (case c16 => k_is)
    (case k16 => k_is)
    (case a17 => k_is)
    (case l17 => k_is)
    (case c17 => k_is)
    (case k17 => k_is)
    (case a18 => k_is)
    (case l18 => k_is)
    (case c18 => k_is)
    (case k18 => k_is)
    (case a19 => k_is)
    (case l19 => k_is)
    (case c19 => k_is)
    (case k19 => k_is)
    (case a20 => k_is)
    (case l20 => k_is)
    (case c20 => k_is)
    (case k20 => k_is)
    (case a21 => k_is)
    (case l21 => k_is)
    (case c21 => k_is)
    (case k21 => k_is)
    (case a22 => k_is)
    (case l22 => k_is)
    (case c22 => k_is)
    (case k22 => k_is)
    (case a23 => k_is)
    (case l23 => k_is)
    (case c23 => k_is)
    (case k23 => k_is)
    (case a24 => k_is)
    (case l24 => k_is)
    (case c24 => k_is)
    (case k24 => k_is)
    (case a25 => k_is)
    (case l25 => k_is)
    (case c25 => k_is)
    (case k25 => k_is)
    (case a26 => k_is)
    (case l26 => k_is)
    (case c26 => k_is)
    (case k26 => k_is)
    (case z_abs => k_is)
    (case z_all => k_is)
    (case z_bool => k_is)
    (case z_dict => k_is)
    (case z_enumerate => k_is)
    (case z_int => k_is)
    (case z_isinstance => k_is)
    (case z_len => k_is)
    (case z_list => k_is)
    (case z_max => k_is)
    (case z_min => k_is)
    (case z_range => k_is)
    (case z_set => k_is)
    (case z_sorted => k_is)
    (case z_str => k_is)
    (case z_tuple => k_is)
    (case g_MOVES => k_is)
    (case d_MOVES => k_is)
    (case y_MOVES => k_keys)
    (case e_MOVES_0 => k_is)
    (case q_MOVES_0 => k_is)
    (case e_MOVES_1 => k_is)
    (case q_MOVES_1 => k_is)
    (case e_MOVES_2 => k_is)
    (case q_MOVES_2 => k_is)
    (case e_MOVES_3 => k_is)
    (case q_MOVES_3 => k_is)
    (case g_CELL => k_is)
    (case g_EMPTY => k_is)
    (case g_LAST => k_is)
    (case g_MOST_CELLS => k_is)
    (case g_MOST_ROWS => k_is)
    (case g_MOST_SIGNS => k_is)
    (case g_SIDES => k_is)
    (case q_SIDES => k_is)
    (case q_SIDES_0 => k_is)
    (case q_SIDES_0_1 => k_is)
    (case q_SIDES_0_2 => k_is)
    (case q_SIDES_1 => k_is)
    (case q_SIDES_1_1 => k_is)
    (case q_SIDES_1_2 => k_is)
    (case q_SIDES_2 => k_is)
    (case q_SIDES_2_1 => k_is)
    (case q_SIDES_2_2 => k_is)
    (case q_SIDES_3 => k_is)
    (case q_SIDES_3_1 => k_is)
    (case q_SIDES_3_2 => k_is)
