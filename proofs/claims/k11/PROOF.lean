import PyProof.Rows.All
import Wide.All
import OpenK.AllK
import Wide.FinOn
import HandS.ForMost
import HandS.ForExc
import HandS.Wide
import HandS.WideBits
import HandS.Gcd
import HandS.Property
import HandS.Defaults
import HandS.MakeKw
import HandS.ClsMeth
import HandS.OwnEq
import HandS.FStr
import HandS.RaiseMore
import HandS.Zip
import HandS.IsInst
import HandS.Style
import KE.KOpsOwn
import PyProof.InstEq
import HandS.MakeKwOnly
import HandS.CallLocal
import KE.KFmtOwn
import PyProof.ReprRoads
import PySem.Challenge.RW_surerwalks_k11_whole_numbers_reckoned
set_option Elab.async false
set_option linter.all false
set_option exponentiation.threshold 5000
set_option maxRecDepth 100000
set_option maxHeartbeats 8000000
namespace Mir
open PySem PySem.Spec PyProof.Rows L2

/-- what a Python value stands for: data that nobody changes any more -/
inductive Val where
  | non | bl (b : Bool) | int (i : Int) | str (s : Str)
  | lst (xs : List Val) | tup (xs : List Val)
  | obj (c : Nat) (fs : List Val)
  | cls (c : Nat)
  deriving Inhabited

/-- the program's classes: where they stand, their instances' attributes in order -/
structure Glo where
  K : PySem.W.Frag
  cls : Nat → Addr
  flds : Nat → List Str
  n : Nat

/-- lists of at most so many -/
def LIM : Nat := 100000

mutual
def Rep (G : Glo) (F : Hp) : Val → V → Prop
  | .non, v => v = .non
  | .bl b, v => v = .bl b
  | .int i, v => v = .int i
  | .str s, v => v = .str s
  | .lst xs, v => ∃ a vs, v = .ref a ∧ SqL G.K F a vs ∧ vs.length ≤ LIM ∧ RepL G F xs vs
  | .tup xs, v => ∃ a vs, v = .ref a ∧ SqT G.K F a vs ∧ vs.length ≤ LIM ∧ RepL G F xs vs
  | .obj c fs, v => ∃ a dx vs, v = .ref a ∧ F a = some (.ins (G.cls c) dx ((G.flds c).zip vs)) ∧ vs.length = (G.flds c).length ∧ RepL G F fs vs
  | .cls c, v => v = .ref (G.cls c)
def RepL (G : Glo) (F : Hp) : List Val → List V → Prop
  | [], vs => vs = []
  | x :: xs, vs => ∃ v r, vs = v :: r ∧ Rep G F x v ∧ RepL G F xs r
end

theorem sqL_mono {K : PySem.W.Frag} {F F' : Hp} {a : Addr} {vs : List V} (h : Same F F') (q : SqL K F a vs) : SqL K F' a vs := h.seq q
theorem sqT_mono {K : PySem.W.Frag} {F F' : Hp} {a : Addr} {vs : List V} (h : Same F F') (q : SqT K F a vs) : SqT K F' a vs := by
  rcases q with (q | ⟨o, q⟩) | q
  · exact .inl (.inl (h _ _ q))
  · exact .inl (.inr ⟨o, h _ _ q⟩)
  · exact .inr q

mutual
theorem Rep.mono {G : Glo} {F F' : Hp} (h : Same F F') : ∀ {x : Val} {v : V}, Rep G F x v → Rep G F' x v
  | .non, _, q => q
  | .bl _, _, q => q
  | .int _, _, q => q
  | .str _, _, q => q
  | .lst xs, v, q => by
    simp only [Rep] at q ⊢
    obtain ⟨a, vs, e, s, l, r⟩ := q
    exact ⟨a, vs, e, sqL_mono h s, l, RepL.mono h r⟩
  | .tup xs, v, q => by
    simp only [Rep] at q ⊢
    obtain ⟨a, vs, e, s, l, r⟩ := q
    exact ⟨a, vs, e, sqT_mono h s, l, RepL.mono h r⟩
  | .obj c fs, v, q => by
    simp only [Rep] at q ⊢
    obtain ⟨a, dx, vs, e, s, l, r⟩ := q
    exact ⟨a, dx, vs, e, h _ _ s, l, RepL.mono h r⟩
  | .cls _, _, q => q
theorem RepL.mono {G : Glo} {F F' : Hp} (h : Same F F') : ∀ {xs : List Val} {vs : List V}, RepL G F xs vs → RepL G F' xs vs
  | [], _, q => q
  | x :: xs, vs, q => by
    simp only [RepL] at q ⊢
    obtain ⟨v, r, e, q1, q2⟩ := q
    exact ⟨v, r, e, Rep.mono h q1, RepL.mono h q2⟩
end

section
variable {G : Glo} {F F' H H' : Hp}
theorem RepL.length : ∀ {xs : List Val} {vs : List V}, RepL G F xs vs → vs.length = xs.length
  | [], vs, q => by
    simp only [RepL] at q
    subst q; rfl
  | x :: xs, vs, q => by
    simp only [RepL] at q
    obtain ⟨v, r, e, _, q2⟩ := q
    subst e
    simp [RepL.length q2]
theorem RepL.nil : RepL G F [] [] := by simp [RepL]
theorem RepL.cons {x : Val} {xs : List Val} {v : V} {vs : List V} (h : Rep G F x v) (t : RepL G F xs vs) : RepL G F (x :: xs) (v :: vs) := by
  simp only [RepL]
  exact ⟨v, vs, rfl, h, t⟩
theorem RepL.get : ∀ {xs : List Val} {vs : List V} {i : Nat} {x : Val}, RepL G F xs vs → xs[i]? = some x → ∃ v, vs[i]? = some v ∧ Rep G F x v
  | [], _, _, _, _, e => by simp at e
  | y :: ys, vs, 0, x, q, e => by
    simp only [RepL] at q
    obtain ⟨v, r, rfl, q1, _⟩ := q
    simp at e
    subst e
    exact ⟨v, rfl, q1⟩
  | y :: ys, vs, i + 1, x, q, e => by
    simp only [RepL] at q
    obtain ⟨v, r, rfl, _, q2⟩ := q
    simp at e
    simpa using RepL.get q2 e
theorem RepL.getV : ∀ {xs : List Val} {vs : List V} {i : Nat} {v : V}, RepL G F xs vs → vs[i]? = some v → ∃ x, xs[i]? = some x ∧ Rep G F x v := by
  intro xs vs i v q e
  have hl := q.length
  obtain ⟨hi, _⟩ := List.getElem?_eq_some_iff.mp e
  have hi' : i < xs.length := by omega
  obtain ⟨v', e', r⟩ := q.get (List.getElem?_eq_getElem hi')
  rw [e] at e'
  cases e'
  exact ⟨_, List.getElem?_eq_getElem hi', r⟩
theorem RepL.append : ∀ {xs ys : List Val} {vs ws : List V}, RepL G F xs vs → RepL G F ys ws → RepL G F (xs ++ ys) (vs ++ ws)
  | [], ys, vs, ws, q, t => by
    simp only [RepL] at q
    subst q
    simpa using t
  | x :: xs, ys, vs, ws, q, t => by
    simp only [RepL] at q
    obtain ⟨v, r, rfl, q1, q2⟩ := q
    exact RepL.cons q1 (RepL.append q2 t)
theorem RepL.set : ∀ {xs : List Val} {vs : List V} (i : Nat) {x : Val} {v : V}, RepL G F xs vs → Rep G F x v → RepL G F (xs.set i x) (vs.set i v)
  | [], vs, i, x, v, q, t => by
    simp only [RepL] at q
    subst q
    simp [RepL]
  | y :: ys, vs, 0, x, v, q, t => by
    simp only [RepL] at q
    obtain ⟨w, r, rfl, q1, q2⟩ := q
    exact RepL.cons t q2
  | y :: ys, vs, i + 1, x, v, q, t => by
    simp only [RepL] at q
    obtain ⟨w, r, rfl, q1, q2⟩ := q
    exact RepL.cons q1 (RepL.set i q2 t)
theorem RepL.drop : ∀ {xs : List Val} {vs : List V} (i : Nat), RepL G F xs vs → RepL G F (xs.drop i) (vs.drop i)
  | _, _, 0, q => q
  | [], vs, i + 1, q => by
    simp only [RepL] at q
    subst q
    simp [RepL]
  | x :: xs, vs, i + 1, q => by
    simp only [RepL] at q
    obtain ⟨v, r, rfl, q1, q2⟩ := q
    exact RepL.drop i q2
theorem RepL.take : ∀ {xs : List Val} {vs : List V} (i : Nat), RepL G F xs vs → RepL G F (xs.take i) (vs.take i)
  | _, _, 0, q => by simp [RepL]
  | [], vs, i + 1, q => by
    simp only [RepL] at q
    subst q
    simp [RepL]
  | x :: xs, vs, i + 1, q => by
    simp only [RepL] at q
    obtain ⟨v, r, rfl, q1, q2⟩ := q
    exact RepL.cons q1 (RepL.take i q2)
end

/-! ### results -/
/-- an exception of an own class: its number, its attributes' values -/
structure Exn where
  c : Nat
  args : List Val
inductive Res (α : Type) where
  | ok (a : α) | err (e : Exn) | no
@[inline] def Res.bind {α β : Type} (m : Res α) (f : α → Res β) : Res β := match m with
  | .ok a => f a
  | .err e => .err e
  | .no => .no
instance : Monad Res where
  pure := Res.ok
  bind := Res.bind
@[simp] theorem ok_bind {α β : Type} (a : α) (f : α → Res β) : (Res.ok a >>= f) = f a := rfl
@[simp] theorem err_bind {α β : Type} (e : Exn) (f : α → Res β) : ((Res.err e : Res α) >>= f) = Res.err e := rfl
@[simp] theorem no_bind {α β : Type} (f : α → Res β) : ((Res.no : Res α) >>= f) = Res.no := rfl
@[simp] theorem pure_ok {α : Type} (a : α) : (pure a : Res α) = Res.ok a := rfl
theorem bind_assoc' {α β γ : Type} (m : Res α) (f : α → Res β) (g : β → Res γ) : (m >>= f >>= g) = (m >>= fun x => f x >>= g) := by cases m <;> rfl

/-- more is known, nothing is lost; what is newly held fast is new -/
structure Grow (F H F' H' : Hp) : Prop where
  ff : Same F F'
  fh : Same F' H'
  hh : Same H H'
  fr : ∀ a o, F' a = some o → F a = some o ∨ H a = none
theorem Grow.refl {F H : Hp} (h : Same F H) : Grow F H F H := ⟨Same.refl _, h, Same.refl _, fun _ _ e => .inl e⟩
theorem Grow.trans {F H F1 H1 F2 H2 : Hp} (a : Grow F H F1 H1) (b : Grow F1 H1 F2 H2) : Grow F H F2 H2 :=
  ⟨a.ff.trans b.ff, b.fh, a.hh.trans b.hh, fun x o e => (b.fr x o e).elim (fun q => a.fr x o q) fun q => .inr (a.hh.free q)⟩
/-- a new object is laid and held fast -/
theorem Grow.new {F H : Hp} {a : Addr} {o : HO} (h : Same F H) (n : H a = none) : Grow F H (upd F a o) (upd H a o) :=
  ⟨fun b u e => by rw [upd_ne (ne_of_none e (h.free n))]; exact e, fun b u e => by
    unfold upd at e ⊢
    split <;> simp_all
    exact h _ _ e, fun b u e => by rw [upd_ne (ne_of_none e n)]; exact e, fun b u e => by
    by_cases hb : b = a
    · subst hb; exact .inr n
    · rw [upd_ne hb] at e; exact .inl e⟩
/-- how an exception lies -/
def ExRep (G : Glo) (F : Hp) (e : Exn) (cls : Value) (d : Option Addr) : Prop :=
  cls = .ref (G.cls e.c) ∧ ∃ vs, RepL G F e.args vs ∧ vs.length = (G.flds e.c).length ∧ (((G.flds e.c) = [] ∧ d = none) ∨ ∃ a, d = some a ∧ F a = some (.xd ((G.flds e.c).zip vs)))
/-- what an expression's end must give -/
def Post (G : Glo) (E : XK) (F H : Hp) (Q : VK) : Res Val → Prop
  | .ok x => ∀ v F' H', Grow F H F' H' → Rep G F' x v → Q v H'
  | .err e => ∀ c d F' H', Grow F H F' H' → ExRep G F' e c d → E c d H'
  | .no => False
theorem Post.grow {G : Glo} {E : XK} {F H F1 H1 : Hp} {Q : VK} {m : Res Val} (g : Grow F H F1 H1) (p : Post G E F H Q m) : Post G E F1 H1 Q m := by
  cases m with
  | ok x => exact fun v F' H' g' r => p v F' H' (g.trans g') r
  | err e => exact fun c d F' H' g' r => p c d F' H' (g.trans g') r
  | no => exact p
/-- one value, then the rest -/
theorem Post.bind {G : Glo} {E : XK} {F H : Hp} {Q : VK} {m : Res Val} {f : Val → Res Val} (p : Post G E F H Q (m >>= f)) :
    Post G E F H (fun v H1 => ∃ x F1, Grow F H F1 H1 ∧ Rep G F1 x v ∧ Post G E F1 H1 Q (f x)) m := by
  cases m with
  | ok x => exact fun v F' H' g r => ⟨x, F', g, r, Post.grow g p⟩
  | err e => exact p
  | no => exact p
theorem Post.ok {G : Glo} {E : XK} {F H : Hp} {Q : VK} {x : Val} {v : V} (p : Post G E F H Q (.ok x)) (h : Same F H) (r : Rep G F x v) : Q v H := p v F H (Grow.refl h) r
end Mir
namespace Mir
open PySem PySem.Spec PyProof.Rows L2

/-- what a name's slot is known to hold -/
inductive Ent where
  | val (x : Val) | mut (xs : List Val) | pot (xs : List Val)
  /-- an object that is being made, its attributes so far -/
  | slf (k : Nat) (fs : List Val)
abbrev Ros := List (Option Ent)

/-- a body's fixed things: the wish for exceptions, the heap at the entry, what was held fast there, the list that the caller lends -/
structure Cxt where
  G : Glo
  E : XK
  H0 : Hp
  F0 : Hp
  p : Option Addr
  n : Nat

/-- the state at a point of a body -/
structure At (c : Cxt) (F H : Hp) (σ : L2.St) (ρ : Ros) : Prop where
  sub : Same F H
  kept : ∀ a o, c.H0 a = some o → c.p ≠ some a → H a = some o
  dom : ∀ a, H a = none → c.H0 a = none
  fresh : ∀ a o, F a = some o → c.F0 a = some o ∨ c.H0 a = none
  ff : Same c.F0 F
  vals : ∀ (i : Nat) (x : Val), ρ[i]? = some (some (Ent.val x)) → ∃ v, σ[i]? = some (some v) ∧ Rep c.G F x v
  muts : ∀ (i : Nat) (xs : List Val), ρ[i]? = some (some (Ent.mut xs)) → ∃ a vs, σ[i]? = some (some (V.ref a)) ∧ H a = some (.lst vs) ∧ F a = none ∧ c.H0 a = none ∧ vs.length ≤ LIM ∧ RepL c.G F xs vs
  pots : ∀ (i : Nat) (xs : List Val), ρ[i]? = some (some (Ent.pot xs)) → ∃ a vs, c.p = some a ∧ σ[i]? = some (some (V.ref a)) ∧ H a = some (.lst vs) ∧ F a = none ∧ vs.length ≤ LIM ∧ RepL c.G F xs vs
  slfs : ∀ (i k : Nat) (xs : List Val), ρ[i]? = some (some (Ent.slf k xs)) → ∃ a dx vs, c.p = some a ∧ σ[i]? = some (some (V.ref a)) ∧ H a = some (.ins (c.G.cls k) dx ((c.G.flds k).zip vs)) ∧ F a = none ∧ vs.length ≤ (c.G.flds k).length ∧ RepL c.G F xs vs
  dist : ∀ (i j : Nat) (xs ys : List Val) (a : Addr), i ≠ j → ρ[i]? = some (some (Ent.mut xs)) → ρ[j]? = some (some (Ent.mut ys)) → σ[i]? = some (some (V.ref a)) → σ[j]? ≠ some (some (V.ref a))
  pdist : ∀ a, c.p = some a → ∃ o, c.H0 a = some o
  len : σ.length = c.n

section
variable {c : Cxt} {F H F' H' : Hp} {σ : L2.St} {ρ : Ros}
theorem At.grow (s : At c F H σ ρ) (g : Grow F H F' H') : At c F' H' σ ρ := by
  have nf : ∀ a o, H a = some o → F a = none → F' a = none := fun a o h n => by
    cases q : F' a with
    | none => rfl
    | some u => exact (g.fr a u q).elim (fun z => by rw [n] at z; cases z) fun z => by rw [h] at z; cases z
  refine ⟨g.fh, fun a o h n => g.hh _ _ (s.kept a o h n), fun a n => s.dom a (g.hh.free n), fun a o h => ?_, s.ff.trans g.ff, fun i x h => ?_, fun i xs h => ?_, fun i xs h => ?_, fun i k xs h => ?_, s.dist, s.pdist, s.len⟩
  · exact (g.fr a o h).elim (s.fresh a o) fun z => .inr (s.dom a z)
  · obtain ⟨v, e, r⟩ := s.vals i x h
    exact ⟨v, e, r.mono g.ff⟩
  · obtain ⟨a, vs, e, h1, h2, h3, l, r⟩ := s.muts i xs h
    exact ⟨a, vs, e, g.hh _ _ h1, nf _ _ h1 h2, h3, l, r.mono g.ff⟩
  · obtain ⟨a, vs, e0, e, h1, h2, l, r⟩ := s.pots i xs h
    exact ⟨a, vs, e0, e, g.hh _ _ h1, nf _ _ h1 h2, l, r.mono g.ff⟩
  · obtain ⟨a, dx, vs, e0, e, h1, h2, l, r⟩ := s.slfs i k xs h
    exact ⟨a, dx, vs, e0, e, g.hh _ _ h1, nf _ _ h1 h2, l, r.mono g.ff⟩
/-- what is known of the slots is forgotten in part -/
inductive Weak : Ros → Ros → Prop where
  | nil : Weak [] []
  | keep {e : Option Ent} {r r' : Ros} (h : Weak r r') : Weak (e :: r) (e :: r')
  | drop {e : Option Ent} {r r' : Ros} (h : Weak r r') : Weak (e :: r) (none :: r')
theorem Weak.at {ρ ρ' : Ros} (w : Weak ρ ρ') : ∀ {i : Nat} {x : Ent}, ρ'[i]? = some (some x) → ρ[i]? = some (some x) := by
  induction w with
  | nil => intro i x h; simp at h
  | keep h ih => intro i x q; cases i with
    | zero => simpa using q
    | succ i => simpa using ih (by simpa using q)
  | drop h ih => intro i x q; cases i with
    | zero => simp at q
    | succ i => simpa using ih (by simpa using q)
theorem Weak.refl : ∀ (ρ : Ros), Weak ρ ρ
  | [] => .nil
  | _ :: r => .keep (Weak.refl r)
theorem At.weak {ρ' : Ros} (s : At c F H σ ρ) (w : Weak ρ ρ') : At c F H σ ρ' :=
  ⟨s.sub, s.kept, s.dom, s.fresh, s.ff, fun i x h => s.vals i x (w.at h), fun i xs h => s.muts i xs (w.at h), fun i xs h => s.pots i xs (w.at h), fun i k xs h => s.slfs i k xs (w.at h), fun i j xs ys a n h h' => s.dist i j xs ys a n (w.at h) (w.at h'), s.pdist, s.len⟩
/-- a value is stored at a slot -/
theorem At.store {i : Nat} {x : Val} {v : V} (s : At c F H σ ρ) (hi' : i < c.n) (r : Rep c.G F x v) : At c F H (σ.set i (some v)) (ρ.set i (some (Ent.val x))) := by
  have hi : i < σ.length := by rw [s.len]; exact hi'
  have g : ∀ {j : Nat} {y : Ent}, j ≠ i → (ρ.set i (some (Ent.val x)))[j]? = some (some y) → ρ[j]? = some (some y) := fun {j y} n h => by
    rw [List.getElem?_set_ne (Ne.symm n)] at h; exact h
  have o : ∀ {j : Nat} {y : Ent}, (ρ.set i (some (Ent.val x)))[j]? = some (some y) → (j = i ∧ y = Ent.val x) ∨ (j ≠ i ∧ ρ[j]? = some (some y)) := fun {j y} h => by
    by_cases e : j = i
    · subst e
      by_cases hl : j < ρ.length
      · rw [List.getElem?_set_self hl] at h; cases h; exact .inl ⟨rfl, rfl⟩
      · rw [List.getElem?_eq_none (by simpa using hl)] at h; cases h
    · exact .inr ⟨e, g e h⟩
  refine ⟨s.sub, s.kept, s.dom, s.fresh, s.ff, fun j y h => ?_, fun j xs h => ?_, fun j xs h => ?_, fun j k xs h => ?_, fun j k xs ys a n h h' q => ?_, s.pdist, by rw [List.length_set]; exact s.len⟩
  · rcases o h with ⟨rfl, e⟩ | ⟨n, h⟩
    · cases e
      exact ⟨v, by rw [List.getElem?_set_self hi], r⟩
    · obtain ⟨w, e, q⟩ := s.vals j y h
      exact ⟨w, by rw [List.getElem?_set_ne (Ne.symm n)]; exact e, q⟩
  · rcases o h with ⟨rfl, e⟩ | ⟨n, h⟩
    · cases e
    · obtain ⟨a, vs, e, q⟩ := s.muts j xs h
      exact ⟨a, vs, by rw [List.getElem?_set_ne (Ne.symm n)]; exact e, q⟩
  · rcases o h with ⟨rfl, e⟩ | ⟨n, h⟩
    · cases e
    · obtain ⟨a, vs, e0, e, q⟩ := s.pots j xs h
      exact ⟨a, vs, e0, by rw [List.getElem?_set_ne (Ne.symm n)]; exact e, q⟩
  · rcases o h with ⟨rfl, e⟩ | ⟨n, h⟩
    · cases e
    · obtain ⟨a, dx, vs, e0, e, q⟩ := s.slfs j k xs h
      exact ⟨a, dx, vs, e0, by rw [List.getElem?_set_ne (Ne.symm n)]; exact e, q⟩
  · rcases o h with ⟨rfl, e⟩ | ⟨n1, h⟩
    · cases e
    rcases o h' with ⟨rfl, e⟩ | ⟨n2, h'⟩
    · cases e
    rw [List.getElem?_set_ne (Ne.symm n1)] at q
    rw [List.getElem?_set_ne (Ne.symm n2)]
    exact s.dist j k xs ys a n h h' q
/-- a new list, still to be changed, is stored at a slot -/
theorem At.storeMut {i : Nat} {a : Addr} {xs : List Val} {vs : List V} (s : At c F H σ ρ) (hi' : i < c.n) (h1 : H a = some (.lst vs)) (h2 : F a = none) (h3 : c.H0 a = none) (hl : vs.length ≤ LIM) (r : RepL c.G F xs vs)
    (hn : ∀ (j : Nat) (ys : List Val), j ≠ i → ρ[j]? = some (some (Ent.mut ys)) → σ[j]? ≠ some (some (V.ref a))) : At c F H (σ.set i (some (V.ref a))) (ρ.set i (some (Ent.mut xs))) := by
  have hi : i < σ.length := by rw [s.len]; exact hi'
  have o : ∀ {j : Nat} {y : Ent}, (ρ.set i (some (Ent.mut xs)))[j]? = some (some y) → (j = i ∧ y = Ent.mut xs) ∨ (j ≠ i ∧ ρ[j]? = some (some y)) := fun {j y} h => by
    by_cases e : j = i
    · subst e
      by_cases hl : j < ρ.length
      · rw [List.getElem?_set_self hl] at h; cases h; exact .inl ⟨rfl, rfl⟩
      · rw [List.getElem?_eq_none (by simpa using hl)] at h; cases h
    · rw [List.getElem?_set_ne (Ne.symm e)] at h; exact .inr ⟨e, h⟩
  refine ⟨s.sub, s.kept, s.dom, s.fresh, s.ff, fun j y h => ?_, fun j ys h => ?_, fun j ys h => ?_, fun j k ys h => ?_, fun j k ys zs b n h h' q => ?_, s.pdist, by rw [List.length_set]; exact s.len⟩
  · rcases o h with ⟨rfl, e⟩ | ⟨n, h⟩
    · cases e
    · obtain ⟨w, e, q⟩ := s.vals j y h
      exact ⟨w, by rw [List.getElem?_set_ne (Ne.symm n)]; exact e, q⟩
  · rcases o h with ⟨rfl, e⟩ | ⟨n, h⟩
    · cases e
      exact ⟨a, vs, by rw [List.getElem?_set_self hi], h1, h2, h3, hl, r⟩
    · obtain ⟨b, ws, e, q⟩ := s.muts j ys h
      exact ⟨b, ws, by rw [List.getElem?_set_ne (Ne.symm n)]; exact e, q⟩
  · rcases o h with ⟨rfl, e⟩ | ⟨n, h⟩
    · cases e
    · obtain ⟨b, ws, e0, e, q⟩ := s.pots j ys h
      exact ⟨b, ws, e0, by rw [List.getElem?_set_ne (Ne.symm n)]; exact e, q⟩
  · rcases o h with ⟨rfl, e⟩ | ⟨n, h⟩
    · cases e
    · obtain ⟨b, dx, ws, e0, e, q⟩ := s.slfs j k ys h
      exact ⟨b, dx, ws, e0, by rw [List.getElem?_set_ne (Ne.symm n)]; exact e, q⟩
  · rcases o h with ⟨e1, e⟩ | ⟨n1, h1⟩
    · rcases o h' with ⟨e2, e'⟩ | ⟨n2, h2⟩
      · exact absurd (e1.trans e2.symm) n
      · subst e1
        rw [List.getElem?_set_self hi] at q
        cases q
        rw [List.getElem?_set_ne (Ne.symm n2)]
        exact hn k zs n2 h2
    · rcases o h' with ⟨e2, e'⟩ | ⟨n2, h2⟩
      · subst e2
        rw [List.getElem?_set_self hi]
        rw [List.getElem?_set_ne (Ne.symm n1)] at q
        intro z
        cases z
        exact hn j ys n1 h1 q
      · rw [List.getElem?_set_ne (Ne.symm n1)] at q
        rw [List.getElem?_set_ne (Ne.symm n2)]
        exact s.dist j k ys zs b n h1 h2 q
/-- a list that nobody will change any more is held fast -/
theorem At.freeze {i : Nat} {xs : List Val} (s : At c F H σ ρ) (hi : ρ[i]? = some (some (Ent.mut xs))) : ∃ F', Same F F' ∧ At c F' H σ (ρ.set i (some (Ent.val (Val.lst xs)))) := by
  obtain ⟨a, vs, e, h1, h2, h3, hl, r⟩ := s.muts i xs hi
  have hF : Same F (upd F a (.lst vs)) := fun b o q => by
    rw [upd_ne (ne_of_none q h2)]; exact q
  have up : ∀ {b : Addr} {o : HO}, upd F a (.lst vs) b = some o → (b = a ∧ o = .lst vs) ∨ F b = some o := fun {b o} q => by
    by_cases z : b = a
    · subst z; rw [upd_same] at q; cases q; exact .inl ⟨rfl, rfl⟩
    · rw [upd_ne z] at q; exact .inr q
  have o : ∀ {j : Nat} {y : Ent}, (ρ.set i (some (Ent.val (Val.lst xs))))[j]? = some (some y) → (j = i ∧ y = Ent.val (.lst xs)) ∨ (j ≠ i ∧ ρ[j]? = some (some y)) := fun {j y} h => by
    by_cases e : j = i
    · subst e
      by_cases hl : j < ρ.length
      · rw [List.getElem?_set_self hl] at h; cases h; exact .inl ⟨rfl, rfl⟩
      · rw [List.getElem?_eq_none (by simpa using hl)] at h; cases h
    · rw [List.getElem?_set_ne (Ne.symm e)] at h; exact .inr ⟨e, h⟩
  have nf : ∀ {b : Addr}, b ≠ a → F b = none → upd F a (.lst vs) b = none := fun {b} n e => by rw [upd_ne n]; exact e
  refine ⟨upd F a (.lst vs), hF, ⟨fun b u q => ?_, s.kept, s.dom, fun b u q => ?_, s.ff.trans hF, fun j y h => ?_, fun j ys h => ?_, fun j ys h => ?_, fun j k ys h => ?_, fun j k ys zs b n h h' q => ?_, s.pdist, s.len⟩⟩
  · rcases up q with ⟨rfl, rfl⟩ | q
    · exact h1
    · exact s.sub _ _ q
  · rcases up q with ⟨rfl, rfl⟩ | q
    · exact .inr h3
    · exact s.fresh _ _ q
  · rcases o h with ⟨rfl, e'⟩ | ⟨n, h⟩
    · cases e'
      refine ⟨.ref a, e, ?_⟩
      simp only [Rep]
      exact ⟨a, vs, rfl, .inl (.inl upd_same), hl, r.mono hF⟩
    · obtain ⟨w, e, q⟩ := s.vals j y h
      exact ⟨w, e, q.mono hF⟩
  · rcases o h with ⟨rfl, e'⟩ | ⟨n, h⟩
    · cases e'
    · obtain ⟨b, ws, e', q1, q2, q3, q4, q5⟩ := s.muts j ys h
      refine ⟨b, ws, e', q1, nf (fun z => ?_) q2, q3, q4, q5.mono hF⟩
      subst z
      exact s.dist j i ys xs b n h hi e' e
  · rcases o h with ⟨rfl, e'⟩ | ⟨n, h⟩
    · cases e'
    · obtain ⟨b, ws, e0, e', q1, q2, q3, q4⟩ := s.pots j ys h
      refine ⟨b, ws, e0, e', q1, nf (fun z => ?_) q2, q3, q4.mono hF⟩
      subst z
      obtain ⟨u, hu⟩ := s.pdist b e0
      rw [h3] at hu
      cases hu
  · rcases o h with ⟨rfl, e'⟩ | ⟨n, h⟩
    · cases e'
    · obtain ⟨b, dx, ws, e0, e', q1, q2, q3, q4⟩ := s.slfs j k ys h
      refine ⟨b, dx, ws, e0, e', q1, nf (fun z => ?_) q2, q3, q4.mono hF⟩
      subst z
      obtain ⟨u, hu⟩ := s.pdist b e0
      rw [h3] at hu
      cases hu
  · rcases o h with ⟨rfl, e'⟩ | ⟨n1, h1⟩
    · cases e'
    rcases o h' with ⟨rfl, e'⟩ | ⟨n2, h2⟩
    · cases e'
    exact s.dist j k ys zs b n h1 h2 q
end
end Mir
namespace Mir
open PySem PySem.Spec PyProof.Rows L2

/-- what the end of a reading must give, by what stands for it -/
def PostX {α β : Type} (G : Glo) (E : XK) (rel : Hp → α → β → Prop) (F H : Hp) (Q : β → Hp → Prop) : Res α → Prop
  | .ok x => ∀ v F' H', Grow F H F' H' → rel F' x v → Q v H'
  | .err e => ∀ c d F' H', Grow F H F' H' → ExRep G F' e c d → E c d H'
  | .no => False
section
variable {α β γ δ : Type} {G : Glo} {E : XK} {rel : Hp → α → β → Prop} {rel' : Hp → γ → δ → Prop} {F H F1 H1 : Hp} {Q : β → Hp → Prop} {Q' : δ → Hp → Prop}
theorem PostX.grow {m : Res α} (g : Grow F H F1 H1) (p : PostX G E rel F H Q m) : PostX G E rel F1 H1 Q m := by
  cases m with
  | ok x => exact fun v F' H' g' r => p v F' H' (g.trans g') r
  | err e => exact fun c d F' H' g' r => p c d F' H' (g.trans g') r
  | no => exact p
theorem PostX.bind {m : Res α} {f : α → Res γ} (p : PostX G E rel' F H Q' (m >>= f)) :
    PostX G E rel F H (fun v H1 => ∃ x F1, m = .ok x ∧ Grow F H F1 H1 ∧ rel F1 x v ∧ PostX G E rel' F1 H1 Q' (f x)) m := by
  cases m with
  | ok x => exact fun v F' H' g r => ⟨x, F', rfl, g, r, PostX.grow g p⟩
  | err e => exact p
  | no => exact p
theorem PostX.done {x : α} {v : β} (p : PostX G E rel F H Q (.ok x)) (h : Same F H) (r : rel F x v) : Q v H := p v F H (Grow.refl h) r
end
abbrev PostV (c : Cxt) (F H : Hp) (Q : VK) (m : Res Val) : Prop := PostX c.G c.E (Rep c.G) F H Q m
abbrev PostB (c : Cxt) (F H : Hp) (Q : Bool → Hp → Prop) (m : Res Bool) : Prop := PostX c.G c.E (fun _ (a b : Bool) => b = a) F H Q m
abbrev PostA (c : Cxt) (F H : Hp) (Q : List V → Hp → Prop) (m : Res (List Val)) : Prop := PostX c.G c.E (RepL c.G) F H Q m

/-- the expression e, read as t, gives m where ρ is known -/
structure EX (c : Cxt) (X : Cx) (e : Expr) (t : TE) (ρ : Ros) (m : Res Val) : Prop where
  pe : PE X e t
  ev : ∀ σ F H Q, At c F H σ ρ → PostV c F H Q m → t σ H Q
structure ET (c : Cxt) (X : Cx) (e : Expr) (t : TT) (ρ : Ros) (m : Res Bool) : Prop where
  pt : PT X e t
  ev : ∀ σ F H Q, At c F H σ ρ → PostB c F H Q m → t σ H Q
structure EW (c : Cxt) (X : Cx) (e : Expr) (t : TT) (ρ : Ros) (m : Res Bool) : Prop where
  pw : PW X e t
  ev : ∀ σ F H Q, At c F H σ ρ → PostB c F H Q m → t σ H Q
structure EA (c : Cxt) (X : Cx) (es : List Expr) (t : TA) (ρ : Ros) (m : Res (List Val)) : Prop where
  pa : PA X es t
  ev : ∀ σ F H Q, At c F H σ ρ → PostA c F H Q m → t σ H Q

section
variable {c : Cxt} {X : Cx} {e a b : Expr} {es : List Expr} {ta tb te : TE} {tt tu : TT} {tA : TA} {ρ : Ros} {m m1 m2 : Res Val} {mb mb2 : Res Bool} {ml : Res (List Val)} {pos : Pos}

theorem ex_var {i : Nat} {x : Val} (h : PE X e (tVar i)) (hx : ρ[i]? = some (some (.val x))) : EX c X e (tVar i) ρ (.ok x) := by
  refine ⟨h, fun σ F H Q s p => ?_⟩
  obtain ⟨v, e, r⟩ := s.vals i x hx
  exact ⟨v, e, p.done s.sub r⟩
theorem ex_const {x : Val} {v : V} (h : PE X e (tC v)) (r : ∀ F, Rep c.G F x v) : EX c X e (tC v) ρ (.ok x) :=
  ⟨h, fun σ F H Q s p => p.done s.sub (r F)⟩
theorem ex_int {i : Int} {j} : EX c X (.Constant (.int i) j pos) (tC (.int i)) ρ (.ok (.int i)) := ex_const pe_int fun _ => rfl
theorem ex_bl {i : Bool} {j} : EX c X (.Constant (.bool i) j pos) (tC (.bl i)) ρ (.ok (.bl i)) := ex_const pe_bl fun _ => rfl
theorem ex_non {j} : EX c X (.Constant .none j pos) (tC .non) ρ (.ok .non) := ex_const pe_non fun _ => rfl
theorem ex_str {i : Str} {j} : EX c X (.Constant (.str i) j pos) (tC (.str i)) ρ (.ok (.str i)) := ex_const pe_str fun _ => rfl

/-! ### operators -/
/-- the reading r of a two-place operation gives what f says -/
def OpV (c : Cxt) (r : R2) (f : Val → Val → Res Val) : Prop := ∀ x y v w F H Q, Same F H → Rep c.G F x v → Rep c.G F y w → PostV c F H Q (f x y) → r v w H Q
def UnV (c : Cxt) (r : V → Hp → VK → Prop) (f : Val → Res Val) : Prop := ∀ x v F H Q, Same F H → Rep c.G F x v → PostV c F H Q (f x) → r v H Q
theorem two {r : R2} {f : Val → Val → Res Val} (hf : OpV c r f) (h1 : EX c X a ta ρ m1) (h2 : EX c X b tb ρ m2) : ∀ σ F H Q, At c F H σ ρ → PostV c F H Q (m1 >>= fun x => m2 >>= fun y => f x y) → tOp r ta tb σ H Q := by
  intro σ F H Q s p
  refine h1.ev σ F H _ s ?_
  have q := PostX.bind (rel := Rep c.G) p
  cases m1 with
  | err e => exact p
  | no => exact p
  | ok x =>
    intro v F1 H1 g1 r1
    have s1 := s.grow g1
    refine h2.ev σ F1 H1 _ s1 ?_
    have p1 : PostX c.G c.E (Rep c.G) F1 H1 Q (m2 >>= fun y => f x y) := PostX.grow g1 p
    cases m2 with
    | err e => exact p1
    | no => exact p1
    | ok y =>
      intro w F2 H2 g2 r2
      exact hf x y v w F2 H2 Q g2.fh (r1.mono g2.ff) r2 (PostX.grow g2 p1)
theorem ex_op {op : Operator} {r : R2} {f : Val → Val → Res Val} (ho : OpR X (binaryOp op) r) (hf : OpV c r f) (h1 : EX c X a ta ρ m1) (h2 : EX c X b tb ρ m2) :
    EX c X (.BinOp a op b pos) (tOp r ta tb) ρ (m1 >>= fun x => m2 >>= fun y => f x y) := ⟨pe_op ho h1.pe h2.pe, two hf h1 h2⟩
theorem ex_cmp {op : CmpOp} {r : R2} {f : Val → Val → Res Val} (ho : OpR X (compareOp op) r) (hf : OpV c r f) (h1 : EX c X a ta ρ m1) (h2 : EX c X b tb ρ m2) (hm : behindInMarks op b = false) :
    EX c X (.Compare a [op] [b] pos) (tOp r ta tb) ρ (m1 >>= fun x => m2 >>= fun y => f x y) := ⟨pe_cmpR ho h1.pe h2.pe hm, two hf h1 h2⟩
/-- a value that is a bool, as a test -/
def asB : Val → Res Bool
  | .bl b => .ok b
  | _ => .no
theorem test_of {t : TE} (h : ∀ σ F H Q, At c F H σ ρ → PostV c F H Q m → t σ H Q) : ∀ σ F H Q, At c F H σ ρ → PostB c F H Q (m >>= asB) → t σ H (fun x H' => ∃ k, x = .bl k ∧ Q k H') := by
  intro σ F H Q s p
  refine h σ F H _ s ?_
  cases m with
  | err e => exact p
  | no => exact p
  | ok x =>
    intro v F1 H1 g1 r1
    cases x with
    | bl k =>
      have e : v = .bl k := r1
      exact ⟨k, e, p k F1 H1 g1 rfl⟩
    | _ => exact p.elim
theorem et_cmp {op : CmpOp} {r : R2} {f : Val → Val → Res Val} (ho : OpR X (compareOp op) r) (hf : OpV c r f) (h1 : EX c X a ta ρ m1) (h2 : EX c X b tb ρ m2) (hm : behindInMarks op b = false) :
    ET c X (.Compare a [op] [b] pos) (tTest (tOp r ta tb)) ρ ((m1 >>= fun x => m2 >>= fun y => f x y) >>= asB) := ⟨pt_cmpR ho h1.pe h2.pe hm, test_of (two hf h1 h2)⟩
theorem et_val (h : EX c X e te ρ m) (he : ∀ whole, isTrue e X.env whole = (do let v ← whole; standAt e.pos; holding [v] (truthy v)) := by intro _; rfl) : ET c X e (tB te) ρ (m >>= asB) := ⟨pt_val h.pe he, test_of h.ev⟩
theorem ex_un {op : UnaryOp} {r : V → Hp → VK → Prop} {f : Val → Res Val} (ho : UnR X (unaryOp op) r) (hf : UnV c r f) (h : EX c X a ta ρ m) : EX c X (.UnaryOp op a pos) (tUn r ta) ρ (m >>= f) := by
  refine ⟨pe_un ho h.pe, fun σ F H Q s p => h.ev σ F H _ s ?_⟩
  cases m with
  | err e => exact p
  | no => exact p
  | ok x => exact fun v F1 H1 g1 r1 => hf x v F1 H1 Q g1.fh r1 (PostX.grow g1 p)

/-! ### and, or, not; a if t else b -/
theorem ew_one {op : BoolOp} (h : ET c X a tt ρ mb) (ho : op = .And ∨ op = .Or) : EW c X (.BoolOp op [a] pos) tt ρ mb := by
  rcases ho with rfl | rfl
  · exact ⟨pw_and1 h.pt, h.ev⟩
  · exact ⟨pw_or1 h.pt, h.ev⟩
def rAnd (x y : Res Bool) : Res Bool := x >>= fun k => if k = true then y else .ok false
def rOr (x y : Res Bool) : Res Bool := x >>= fun k => if k = true then .ok true else y
theorem ew_and {rest : List Expr} (h : ET c X a tt ρ mb) (h2 : EW c X (.BoolOp .And (b :: rest) pos) tu ρ mb2) : EW c X (.BoolOp .And (a :: b :: rest) pos) (tAnd tt tu) ρ (rAnd mb mb2) := by
  refine ⟨pw_and h.pt h2.pw, fun σ F H Q s p => h.ev σ F H _ s ?_⟩
  cases mb with
  | err e => exact p
  | no => exact p
  | ok k =>
    intro k' F1 H1 g1 r1
    subst r1
    have p1 : PostB c F1 H1 Q (if k' = true then mb2 else .ok false) := PostX.grow g1 p
    by_cases hk : k' = true
    · rw [if_pos hk] at p1 ⊢
      exact h2.ev σ F1 H1 Q (s.grow g1) p1
    · rw [if_neg hk] at p1 ⊢
      exact p1.done g1.fh rfl
theorem ew_or {rest : List Expr} (h : ET c X a tt ρ mb) (h2 : EW c X (.BoolOp .Or (b :: rest) pos) tu ρ mb2) : EW c X (.BoolOp .Or (a :: b :: rest) pos) (tOr tt tu) ρ (rOr mb mb2) := by
  refine ⟨pw_or h.pt h2.pw, fun σ F H Q s p => h.ev σ F H _ s ?_⟩
  cases mb with
  | err e => exact p
  | no => exact p
  | ok k =>
    intro k' F1 H1 g1 r1
    subst r1
    have p1 : PostB c F1 H1 Q (if k' = true then .ok true else mb2) := PostX.grow g1 p
    by_cases hk : k' = true
    · rw [if_pos hk] at p1 ⊢
      exact p1.done g1.fh rfl
    · rw [if_neg hk] at p1 ⊢
      exact h2.ev σ F1 H1 Q (s.grow g1) p1
theorem EW.et (h : EW c X e tt ρ mb) : ET c X e tt ρ mb := ⟨h.pw.pt, h.ev⟩
theorem et_not (h : ET c X a tt ρ mb) : ET c X (.UnaryOp .Not a pos) (tNot tt) ρ (mb >>= fun k => .ok (!k)) := by
  refine ⟨pt_not h.pt, fun σ F H Q s p => h.ev σ F H _ s ?_⟩
  cases mb with
  | err e => exact p
  | no => exact p
  | ok k =>
    intro k' F1 H1 g1 r1
    subst r1
    exact p _ F1 H1 g1 rfl
/-- as values: all but the last are bools -/
def vAnd (x y : Res Val) : Res Val := x >>= fun v => asB v >>= fun k => if k = true then y else .ok (.bl false)
def vOr (x y : Res Val) : Res Val := x >>= fun v => asB v >>= fun k => if k = true then .ok (.bl true) else y
theorem ex_one {op} (h : EX c X a ta ρ m) : EX c X (.BoolOp op [a] pos) ta ρ m := ⟨pe_one h.pe, h.ev⟩
theorem ex_and {rest : List Expr} (h : EX c X a ta ρ m1) (h2 : EX c X (.BoolOp .And (b :: rest) pos) tb ρ m2) : EX c X (.BoolOp .And (a :: b :: rest) pos) (tAndV ta tb) ρ (vAnd m1 m2) := by
  refine ⟨pe_and h.pe h2.pe, fun σ F H Q s p => h.ev σ F H _ s ?_⟩
  cases m1 with
  | err e => exact p
  | no => exact p
  | ok x =>
    intro v F1 H1 g1 r1
    cases x with
    | bl k =>
      have e : v = .bl k := r1
      refine ⟨k, e, ?_⟩
      have p1 : PostV c F1 H1 Q (if k = true then m2 else .ok (.bl false)) := PostX.grow g1 p
      by_cases hk : k = true
      · rw [if_pos hk] at p1 ⊢
        exact h2.ev σ F1 H1 Q (s.grow g1) p1
      · rw [if_neg hk] at p1 ⊢
        exact p1.done g1.fh rfl
    | _ => exact p.elim
theorem ex_or {rest : List Expr} (h : EX c X a ta ρ m1) (h2 : EX c X (.BoolOp .Or (b :: rest) pos) tb ρ m2) : EX c X (.BoolOp .Or (a :: b :: rest) pos) (tOrV ta tb) ρ (vOr m1 m2) := by
  refine ⟨pe_or h.pe h2.pe, fun σ F H Q s p => h.ev σ F H _ s ?_⟩
  cases m1 with
  | err e => exact p
  | no => exact p
  | ok x =>
    intro v F1 H1 g1 r1
    cases x with
    | bl k =>
      have e : v = .bl k := r1
      refine ⟨k, e, ?_⟩
      have p1 : PostV c F1 H1 Q (if k = true then .ok (.bl true) else m2) := PostX.grow g1 p
      by_cases hk : k = true
      · rw [if_pos hk] at p1 ⊢
        exact p1.done g1.fh rfl
      · rw [if_neg hk] at p1 ⊢
        exact h2.ev σ F1 H1 Q (s.grow g1) p1
    | _ => exact p.elim
theorem ex_not (h : EX c X a ta ρ m) : EX c X (.UnaryOp .Not a pos) (tNotV ta) ρ (m >>= fun v => asB v >>= fun k => .ok (.bl (!k))) := by
  refine ⟨pe_not h.pe, fun σ F H Q s p => h.ev σ F H _ s ?_⟩
  cases m with
  | err e => exact p
  | no => exact p
  | ok x =>
    intro v F1 H1 g1 r1
    cases x with
    | bl k =>
      have e : v = .bl k := r1
      exact ⟨k, e, (PostX.grow g1 p : PostV c F1 H1 Q (.ok (.bl (!k)))).done g1.fh rfl⟩
    | _ => exact p.elim
theorem ex_if {cnd : Expr} (h : ET c X cnd tt ρ mb) (h1 : EX c X a ta ρ m1) (h2 : EX c X b tb ρ m2) : EX c X (.IfExp cnd a b pos) (tIf tt ta tb) ρ (mb >>= fun k => if k = true then m1 else m2) := by
  refine ⟨pe_ifExp h.pt h1.pe h2.pe, fun σ F H Q s p => h.ev σ F H _ s ?_⟩
  cases mb with
  | err e => exact p
  | no => exact p
  | ok k =>
    intro k' F1 H1 g1 r1
    subst r1
    have p1 : PostV c F1 H1 Q (if k' = true then m1 else m2) := PostX.grow g1 p
    by_cases hk : k' = true
    · rw [if_pos hk] at p1 ⊢
      exact h1.ev σ F1 H1 Q (s.grow g1) p1
    · rw [if_neg hk] at p1 ⊢
      exact h2.ev σ F1 H1 Q (s.grow g1) p1

/-! ### arguments, displays -/
theorem ea_nil : EA c X [] tNil ρ (.ok []) := ⟨pa_nil, fun σ F H Q s p => p.done s.sub RepL.nil⟩
theorem ea_cons (h : EX c X e te ρ m) (hr : EA c X es tA ρ ml) (hs : starEach (e :: es) X.env = (false, eval e X.env) :: starEach es X.env := by rfl) :
    EA c X (e :: es) (tCons te tA) ρ (m >>= fun x => ml >>= fun xs => .ok (x :: xs)) := by
  refine ⟨pa_cons h.pe hr.pa hs, fun σ F H Q s p => h.ev σ F H _ s ?_⟩
  cases m with
  | err e => exact p
  | no => exact p
  | ok x =>
    intro v F1 H1 g1 r1
    have p1 : PostA c F1 H1 Q (ml >>= fun xs => .ok (x :: xs)) := PostX.grow g1 p
    refine hr.ev σ F1 H1 _ (s.grow g1) ?_
    cases ml with
    | err e => exact p1
    | no => exact p1
    | ok xs => exact fun vs F2 H2 g2 r2 => p1 (v :: vs) F2 H2 g2 (RepL.cons (r1.mono g2.ff) r2)
def mkL (xs : List Val) : Res Val := if xs.length ≤ LIM then .ok (.lst xs) else .no
def mkT (xs : List Val) : Res Val := if xs.length ≤ LIM then .ok (.tup xs) else .no
theorem lim_size {n : Nat} (h : n ≤ LIM) : n ≤ sizeLine := Nat.le_trans h (by decide)
theorem ex_tup {k} (h : EA c X es tA ρ ml) : EX c X (.Tuple es k pos) (tTup tA) ρ (ml >>= mkT) := by
  refine ⟨pe_tup h.pa, fun σ F H Q s p => h.ev σ F H _ s ?_⟩
  cases ml with
  | err e => exact p
  | no => exact p
  | ok xs =>
    intro vs F1 H1 g1 r1
    have p1 : PostV c F1 H1 Q (mkT xs) := PostX.grow g1 p
    unfold mkT at p1
    by_cases hl : xs.length ≤ LIM
    · rw [if_pos hl] at p1
      have hv : vs.length ≤ LIM := by rw [r1.length]; exact hl
      refine ⟨lim_size hv, fun q hq => p1 (.ref q) (upd F1 q (.tup vs)) _ (Grow.new g1.fh hq) ?_⟩
      simp only [Rep]
      exact ⟨q, vs, rfl, .inl (.inl upd_same), hv, r1.mono (Grow.new g1.fh hq).ff⟩
    · rw [if_neg hl] at p1
      exact p1.elim
theorem ex_lst (h : EA c X es tA ρ ml) : EX c X (.List es pos) (tLst tA) ρ (ml >>= mkL) := by
  refine ⟨pe_lst h.pa, fun σ F H Q s p => h.ev σ F H _ s ?_⟩
  cases ml with
  | err e => exact p
  | no => exact p
  | ok xs =>
    intro vs F1 H1 g1 r1
    have p1 : PostV c F1 H1 Q (mkL xs) := PostX.grow g1 p
    unfold mkL at p1
    by_cases hl : xs.length ≤ LIM
    · rw [if_pos hl] at p1
      have hv : vs.length ≤ LIM := by rw [r1.length]; exact hl
      refine ⟨lim_size hv, fun q hq => p1 (.ref q) (upd F1 q (.lst vs)) _ (Grow.new g1.fh hq) ?_⟩
      simp only [Rep]
      exact ⟨q, vs, rfl, .inl (.inl upd_same), hv, r1.mono (Grow.new g1.fh hq).ff⟩
    · rw [if_neg hl] at p1
      exact p1.elim

/-! ### calls -/
/-- what a built-in, called by values, gives -/
def CallV (c : Cxt) (r : List V → Hp → VK → Prop) (f : List Val → Res Val) : Prop := ∀ xs vs F H Q, Same F H → RepL c.G F xs vs → PostV c F H Q (f xs) → r vs H Q
theorem args_of {r : List V → Hp → VK → Prop} {f : List Val → Res Val} (hf : CallV c r f) (h : EA c X es tA ρ ml) : ∀ σ F H Q, At c F H σ ρ → PostV c F H Q (ml >>= f) → tCB r tA σ H Q := by
  intro σ F H Q s p
  refine h.ev σ F H _ s ?_
  cases ml with
  | err e => exact p
  | no => exact p
  | ok xs => exact fun vs F1 H1 g1 r1 => hf xs vs F1 H1 Q g1.fh r1 (PostX.grow g1 p)
/-- a call by its reading as a PE -/
theorem ex_callR {r : List V → Hp → VK → Prop} {f : List Val → Res Val} (hp : PA X es tA → PE X e (tCB r tA)) (hf : CallV c r f) (h : EA c X es tA ρ ml) : EX c X e (tCB r tA) ρ (ml >>= f) := ⟨hp h.pa, args_of hf h⟩
/-- what a def of the text promises: it hands back what m says -/
def spM (G : Glo) (n : Nat) (m : List Val → Res Val) : Sp := fun vs H Q E => ∃ F xs, Same F H ∧ RepL G F xs vs ∧ vs.length = n ∧ PostX G E (Rep G) F H Q (m xs)
theorem ex_call {n : Nat} {m : List Val → Res Val} (hp : PA X es tA → PE X e (tCall (spM c.G n m) [] c.E tA)) (h : EA c X es tA ρ ml) (hn : ∀ xs, ml = .ok xs → xs.length = n) : EX c X e (tCall (spM c.G n m) [] c.E tA) ρ (ml >>= m) := by
  refine ⟨hp h.pa, fun σ F H Q s p => h.ev σ F H _ s ?_⟩
  cases ml with
  | err e => exact p
  | no => exact p
  | ok xs =>
    intro vs F1 H1 g1 r1
    show spM c.G n m (vs ++ []) H1 Q c.E
    rw [List.append_nil]
    exact ⟨F1, xs, g1.fh, r1, by rw [r1.length]; exact hn xs rfl, PostX.grow g1 p⟩
end
end Mir
namespace Mir
open PySem PySem.Spec PyProof.Rows L2

/-! ### attributes of instances -/
theorem lookup_zip {names : List Str} : ∀ {vs : List V} {j : Nat} {f : Str} {v : V}, names.Nodup → names[j]? = some f → vs[j]? = some v → (names.zip vs).lookup f = some v := by
  induction names with
  | nil => intro vs j f v _ h _; simp at h
  | cons n ns ih =>
    intro vs j f v nd h1 h2
    cases vs with
    | nil => simp at h2
    | cons w ws =>
      cases j with
      | zero =>
        simp at h1 h2
        subst h1 h2
        simp [List.lookup]
      | succ j =>
        simp at h1 h2
        have hne : f ≠ n := fun e => by
          subst e
          exact (List.nodup_cons.mp nd).1 (List.mem_of_getElem? h1)
        show (match f == n with | true => some w | false => (ns.zip ws).lookup f) = some v
        have : (f == n) = false := by simpa using hne
        rw [this]
        exact ih (List.nodup_cons.mp nd).2 h1 h2
theorem lookup_zip_none {names : List Str} : ∀ {vs : List V} {f : Str}, f ∉ names → (names.zip vs).lookup f = none := by
  induction names with
  | nil => intro vs f _; rfl
  | cons n ns ih =>
    intro vs f h
    cases vs with
    | nil => rfl
    | cons w ws =>
      have hne : (f == n) = false := by simpa using fun e => h (by rw [e]; exact List.mem_cons_self)
      show (match f == n with | true => some w | false => (ns.zip ws).lookup f) = none
      rw [hne]
      exact ih fun m => h (List.mem_cons_of_mem _ m)
/-- a value that is an instance of the class number k -/
def onObj {α : Type} (k : Nat) (f : List Val → Res α) : Val → Res α
  | .obj c fs => if c = k then f fs else .no
  | _ => .no
@[simp] theorem onObj_eq {α : Type} {k : Nat} {f : List Val → Res α} {fs : List Val} : onObj k f (.obj k fs) = f fs := by simp [onObj]
def nth (j : Nat) (fs : List Val) : Res Val := match fs[j]? with
  | some x => .ok x
  | none => .no
def getF (k j : Nat) : Val → Res Val := onObj k (nth j)
section
variable {c : Cxt} {X : Cx} {e a b : Expr} {es : List Expr} {ta tb te : TE} {tt tu : TT} {tA : TA} {ρ : Ros} {m m1 m2 : Res Val} {mb mb2 : Res Bool} {ml : Res (List Val)} {pos : Pos} {F H : Hp}

theorem rep_obj {k : Nat} {fs : List Val} {v : V} (r : Rep c.G F (.obj k fs) v) : ∃ a dx vs, v = .ref a ∧ F a = some (.ins (c.G.cls k) dx ((c.G.flds k).zip vs)) ∧ vs.length = (c.G.flds k).length ∧ RepL c.G F fs vs := by
  simpa [Rep] using r
theorem ex_fld {k j : Nat} {f : Str} (h : EX c X a ta ρ m) (hk : Cls X.K (c.G.cls k)) (hn : NoAttr X.K (c.G.cls k) f) (hj : (c.G.flds k)[j]? = some f) (nd : (c.G.flds k).Nodup) (hb : attributeBase a f X.env (eval a X.env) = eval a X.env) :
    EX c X (.Attribute a f pos) (tFld X.K ta f) ρ (m >>= getF k j) := by
  refine ⟨pe_fld h.pe hb, fun σ F H Q s p => h.ev σ F H _ s ?_⟩
  cases m with
  | err e => exact p
  | no => exact p
  | ok x =>
    intro v F1 H1 g1 r1
    have p1 : PostV c F1 H1 Q (getF k j x) := PostX.grow g1 p
    cases x with
    | obj c' fs =>
      simp only [getF, onObj] at p1
      by_cases hc : c' = k
      · subst hc
        rw [if_pos rfl] at p1
        obtain ⟨b, dx, vs, rfl, hF, hl, rl⟩ := rep_obj r1
        unfold nth at p1
        cases hfj : fs[j]? with
        | none => rw [hfj] at p1; exact p1.elim
        | some y =>
          rw [hfj] at p1
          obtain ⟨w, hw, rw'⟩ := rl.get hfj
          exact ⟨b, _, dx, _, w, rfl, g1.fh _ _ hF, hk, hn, lookup_zip nd hj hw, p1.done g1.fh rw'⟩
      · rw [if_neg hc] at p1; exact p1.elim
    | _ => exact p1.elim

/-- no error leaves -/
def nx {α : Type} : Res α → Res α
  | .ok a => .ok a
  | _ => .no
@[simp] theorem nx_ok {α : Type} {a : α} : nx (.ok a) = .ok a := rfl
theorem PostX.nox {α β : Type} {G : Glo} {E E' : XK} {rel : Hp → α → β → Prop} {F H : Hp} {Q : β → Hp → Prop} {m : Res α} (p : PostX G E rel F H Q (nx m)) : PostX G E' rel F H Q m := by
  cases m with
  | ok x => exact p
  | err e => exact False.elim p
  | no => exact p
theorem PostX.nox' {α β : Type} {G : Glo} {E E' : XK} {rel : Hp → α → β → Prop} {F H : Hp} {Q : β → Hp → Prop} {m : Res α} (p : PostX G E rel F H Q (nx m)) : PostX G E' rel F H Q (nx m) := by
  cases m with
  | ok x => exact p
  | err e => exact False.elim p
  | no => exact p
/-- e.f, a property: its getter's value -/
theorem ex_prop {CX : CXT} {n k g p : Nat} {f : Str} {fd : FuncData} {ps : List Str} {mg : List Val → Res Val} (h : EX c X a ta ρ m) (hk : Cls X.K (c.G.cls k)) (hp : PropOf X.K (c.G.cls k) f p g)
    (Fg : FnOk X.prog X.w X.K X.mg X.base CX n g fd ps (spM c.G 1 mg)) (hr : Room (n + 1) X.A) (hbd : Binds X.K fd ps []) (hx : Passes CX X.nox E0) (hab : attributeBase a f X.env (eval a X.env) = eval a X.env := by rfl) :
    EX c X (.Attribute a f pos) (tProp (c.G.cls k) (spM c.G 1 mg) [] E0 ta) ρ (m >>= fun x => onObj k (fun _ => nx (mg [x])) x) := by
  refine ⟨pe_prop h.pe hk hp Fg hr hbd .nil hx hab, fun σ F H Q s q => h.ev σ F H _ s ?_⟩
  cases m with
  | err e => exact q
  | no => exact q
  | ok x =>
    intro v F1 H1 g1 r1
    have p1 : PostV c F1 H1 Q (onObj k (fun _ => nx (mg [x])) x) := PostX.grow g1 q
    cases x with
    | obj c' fs =>
      simp only [onObj] at p1
      by_cases hc : c' = k
      · subst hc
        rw [if_pos rfl] at p1
        obtain ⟨b, dx, vs, rfl, hF, hl, rl⟩ := rep_obj r1
        exact ⟨b, dx, _, rfl, g1.fh _ _ hF, F1, [.obj c' fs], g1.fh, RepL.cons r1 RepL.nil, rfl, p1.nox⟩
      · rw [if_neg hc] at p1; exact p1.elim
    | _ => exact p1.elim
/-- o.m(..): the object, the arguments, the def's value -/
theorem ex_meth {n k : Nat} {f : Str} {mm : List Val → Res Val} (hp : PA X es tA → PE X e (tMeth (c.G.cls k) f (spM c.G n mm) [] c.E ta tA)) (h : EX c X a ta ρ m) (h2 : EA c X es tA ρ ml) (hf : f ∉ c.G.flds k) (hn : ∀ xs, ml = .ok xs → xs.length + 1 = n) :
    EX c X e (tMeth (c.G.cls k) f (spM c.G n mm) [] c.E ta tA) ρ (m >>= fun x => onObj k (fun _ => ml >>= fun xs => mm (x :: xs)) x) := by
  refine ⟨hp h2.pa, fun σ F H Q s q => h.ev σ F H _ s ?_⟩
  cases m with
  | err e => exact q
  | no => exact q
  | ok x =>
    intro v F1 H1 g1 r1
    have p1 : PostV c F1 H1 Q (onObj k (fun _ => ml >>= fun xs => mm (x :: xs)) x) := PostX.grow g1 q
    cases x with
    | obj c' fs =>
      simp only [onObj] at p1
      by_cases hc : c' = k
      · subst hc
        rw [if_pos rfl] at p1
        obtain ⟨b, dx, vs, rfl, hF, hl, rl⟩ := rep_obj r1
        refine ⟨b, dx, _, rfl, g1.fh _ _ hF, lookup_zip_none hf, h2.ev σ F1 H1 _ (s.grow g1) ?_⟩
        cases ml with
        | err e => exact p1
        | no => exact p1
        | ok xs =>
          intro ws F2 H2 g2 r2
          show spM c.G n mm (.ref b :: (ws ++ [])) H2 Q c.E
          rw [List.append_nil]
          refine ⟨F2, .obj c' fs :: xs, g2.fh, RepL.cons (r1.mono g2.ff) r2, ?_, PostX.grow g2 p1⟩
          rw [List.length_cons, r2.length]
          exact hn xs rfl
      · rw [if_neg hc] at p1; exact p1.elim
    | _ => exact p1.elim

/-! ### a new instance -/
/-- what an __init__ promises: the attributes' values, in order -/
def spI (G : Glo) (k n : Nat) (mi : List Val → Res (List Val)) : Sp := fun vs H Q E => ∃ F xs x dx ws, vs = .ref x :: ws ∧ H x = some (.ins (G.cls k) dx []) ∧ F x = none ∧ Same F H ∧ RepL G F xs ws ∧ ws.length = n ∧
  match mi xs with
  | .ok ys => ∀ F' H' dx us, Same F F' → Same F' H' → (∀ a o, H a = some o → a ≠ x → H' a = some o) → (∀ a o, F' a = some o → F a = some o ∨ H a = none) → H' x = some (.ins (G.cls k) dx ((G.flds k).zip us)) → us.length = (G.flds k).length → RepL G F' ys us → Q .non H'
  | .err e => ∀ cl d F' H', Same F F' → Same F' H' → (∀ a o, H a = some o → a ≠ x → H' a = some o) → (∀ a o, F' a = some o → F a = some o ∨ H a = none) → ExRep G F' e cl d → E cl d H'
  | .no => False
/-- the heap behind a new instance's making, over what was there ahead -/
theorem made_grow {F1 H1 F' H' : Hp} {x dx dy C : Addr} {us : List (Str × V)} (hs : Same F1 H1) (nx : H1 x = none) (nd : H1 dx = none) (a1 : Same F1 F') (a2 : Same F' H')
    (a3 : ∀ a o, (upd (upd H1 dx (.own x)) x (.ins C dx [])) a = some o → a ≠ x → H' a = some o) (a4 : ∀ a o, F' a = some o → F1 a = some o ∨ (upd (upd H1 dx (.own x)) x (.ins C dx [])) a = none) (a5 : H' x = some (.ins C dy us)) :
    Grow F1 H1 (upd F' x (.ins C dy us)) H' ∧ F' x = none := by
  have n0 : F' x = none := by
    cases q : F' x with
    | none => rfl
    | some u => rcases a4 x u q with z | z
                · rw [hs.free nx] at z; cases z
                · rw [upd_same] at z; cases z
  have hh : Same H1 H' := fun a o e => a3 a o (by rw [upd_ne (ne_of_none e nx), upd_ne (ne_of_none e nd)]; exact e) (ne_of_none e nx)
  refine ⟨⟨fun a o e => by rw [upd_ne (ne_of_none e (hs.free nx))]; exact a1 _ _ e, fun a o e => ?_, hh, fun a o e => ?_⟩, n0⟩
  · by_cases z : a = x
    · subst z; rw [upd_same] at e; cases e; exact a5
    · rw [upd_ne z] at e; exact a2 _ _ e
  · by_cases z : a = x
    · subst z; exact .inr nx
    · rw [upd_ne z] at e
      rcases a4 a o e with q | q
      · exact .inl q
      · rw [upd_ne z] at q
        by_cases zd : a = dx
        · subst zd; exact .inr nd
        · rw [upd_ne zd] at q; exact .inr q
theorem ex_make {n k : Nat} {mi : List Val → Res (List Val)} (hp : PA X es tA → PE X e (tMake (c.G.cls k) (spI c.G k n mi) [] c.E tA)) (h : EA c X es tA ρ ml) (hn : ∀ xs, ml = .ok xs → xs.length = n) :
    EX c X e (tMake (c.G.cls k) (spI c.G k n mi) [] c.E tA) ρ (ml >>= fun xs => mi xs >>= fun ys => .ok (.obj k ys)) := by
  refine ⟨hp h.pa, fun σ F H Q s q => h.ev σ F H _ s ?_⟩
  cases ml with
  | err e => exact q
  | no => exact q
  | ok xs =>
    intro ws F1 H1 g1 r1 x dx hx hdx hne
    rw [List.append_nil]
    have p1 : PostV c F1 H1 Q (mi xs >>= fun ys => .ok (.obj k ys)) := PostX.grow g1 q
    have s1 : Same F1 (upd (upd H1 dx (.own x)) x (.ins (c.G.cls k) dx [])) := fun a o e => by
      have e1 := g1.fh a o e
      rw [upd_ne (ne_of_none e1 hx), upd_ne (ne_of_none e1 hdx)]
      exact e1
    refine ⟨F1, xs, x, dx, ws, rfl, upd_same, g1.fh.free hx, s1, r1, by rw [r1.length]; exact hn xs rfl, ?_⟩
    cases hm : mi xs with
    | no => rw [hm] at p1; exact p1
    | err e =>
      rw [hm] at p1
      intro cl d F' H' a1 a2 a3 a4 ee
      refine p1 cl d F' H' ⟨a1, a2, fun a o q => a3 a o (by rw [upd_ne (ne_of_none q hx), upd_ne (ne_of_none q hdx)]; exact q) (ne_of_none q hx), fun a o q => ?_⟩ ee
      rcases a4 a o q with z | z
      · exact .inl z
      · by_cases zx : a = x
        · subst zx; exact .inr hx
        · rw [upd_ne zx] at z
          by_cases zd : a = dx
          · subst zd; exact .inr hdx
          · rw [upd_ne zd] at z; exact .inr z
    | ok ys =>
      rw [hm] at p1
      intro F' H' dy us a1 a2 a3 a4 a5 a6 a7
      obtain ⟨g, n0⟩ := made_grow g1.fh hx hdx a1 a2 a3 a4 a5
      refine ⟨rfl, p1 (.ref x) _ H' g ?_⟩
      simp only [Rep]
      refine ⟨x, dy, us, rfl, upd_same, a6, a7.mono fun a o q => ?_⟩
      rw [upd_ne (ne_of_none q n0)]
      exact q

/-! ### subscripts -/
def vix : Val → Val → Res Val
  | .lst xs, .int i => (match atI xs i with | some y => .ok y | none => .no)
  | .tup xs, .int i => (match atI xs i with | some y => .ok y | none => .no)
  | _, _ => .no
theorem atI_rep {G : Glo} {xs : List Val} {vs : List V} {i : Int} {y : Val} (r : RepL G F xs vs) (h : atI xs i = some y) : ∃ w, atI vs i = some w ∧ Rep G F y w := by
  unfold atI at h ⊢
  rw [r.length]
  cases e : ixN xs.length i with
  | none => rw [e] at h; cases h
  | some j =>
    rw [e] at h
    exact r.get h
theorem opV_ix : OpV c (rIx c.G.K) vix := by
  intro x y v w F H Q hs rx ry p
  cases x with
  | lst xs =>
    cases y with
    | int i =>
      simp only [vix] at p
      simp only [Rep] at rx
      obtain ⟨a, vs, rfl, hq, hl, rl⟩ := rx
      have e : w = .int i := ry
      subst e
      cases ha : atI xs i with
      | none => rw [ha] at p; exact p.elim
      | some z =>
        rw [ha] at p
        obtain ⟨u, hu, ru⟩ := atI_rep rl ha
        exact .inl ⟨a, vs, i, u, rfl, rfl, sqL_mono hs hq, hu, p.done hs ru⟩
    | _ => exact p.elim
  | tup xs =>
    cases y with
    | int i =>
      simp only [vix] at p
      simp only [Rep] at rx
      obtain ⟨a, vs, rfl, hq, hl, rl⟩ := rx
      have e : w = .int i := ry
      subst e
      cases ha : atI xs i with
      | none => rw [ha] at p; exact p.elim
      | some z =>
        rw [ha] at p
        obtain ⟨u, hu, ru⟩ := atI_rep rl ha
        exact .inr (.inl ⟨a, vs, i, u, rfl, rfl, sqT_mono hs hq, hu, p.done hs ru⟩)
    | _ => exact p.elim
  | _ => exact p.elim
theorem ex_ix (h1 : EX c X a ta ρ m1) (h2 : EX c X b tb ρ m2) (hK : X.K = c.G.K) (hs : PlainIx b := by intro _ _; rfl) : EX c X (.Subscript a b pos) (tOp (rIx c.G.K) ta tb) ρ (m1 >>= fun x => m2 >>= fun y => vix x y) := by
  refine ⟨?_, two opV_ix h1 h2⟩
  rw [← hK]
  exact pe_ix ix_seq h1.pe h2.pe hs
/-- an item of a list that is still being changed -/
theorem ex_ixM {i : Nat} {xs : List Val} {ent : Ent} (he : ent = .mut xs ∨ ent = .pot xs) (ha : PE X a (tVar i)) (hx : ρ[i]? = some (some ent)) (h2 : EX c X b tb ρ m2) (hs : PlainIx b := by intro _ _; rfl) :
    EX c X (.Subscript a b pos) (tOp (rIxL X.K) (tVar i) tb) ρ (m2 >>= fun y => vix (.lst xs) y) := by
  refine ⟨pe_ix ix_list ha h2.pe hs, fun σ F H Q s p => ?_⟩
  obtain ⟨l, vs, e, h1, rl⟩ : ∃ l vs, σ[i]? = some (some (V.ref l)) ∧ H l = some (.lst vs) ∧ RepL c.G F xs vs := by
    rcases he with rfl | rfl
    · obtain ⟨l, vs, e, h1, _, _, _, rl⟩ := s.muts i xs hx
      exact ⟨l, vs, e, h1, rl⟩
    · obtain ⟨l, vs, _, e, h1, _, _, rl⟩ := s.pots i xs hx
      exact ⟨l, vs, e, h1, rl⟩
  refine ⟨.ref l, e, h2.ev σ F H _ s ?_⟩
  cases m2 with
  | err e => exact p
  | no => exact p
  | ok y =>
    intro w F1 H1 g1 r1
    have p1 : PostV c F1 H1 Q (vix (.lst xs) y) := PostX.grow g1 p
    cases y with
    | int j =>
      have e2 : w = .int j := r1
      subst e2
      simp only [vix] at p1
      cases ha : atI xs j with
      | none => rw [ha] at p1; exact p1.elim
      | some z =>
        rw [ha] at p1
        obtain ⟨u, hu, ru⟩ := atI_rep (rl.mono g1.ff) ha
        exact ⟨l, vs, j, u, rfl, rfl, SqL.of (g1.hh _ _ h1), hu, p1.done g1.fh ru⟩
    | _ => exact p1.elim
end
end Mir
namespace Mir
open PySem PySem.Spec PyProof.Rows L2

/-! ### statements: r is what the body, from here on, comes to -/
/-- what the body's end must give: rel says how the result lies -/
def Fin {α : Type} (c : Cxt) (rel : Hp → Hp → V → α → Prop) (Q : VK) (F : Hp) : Res α → Prop
  | .ok a => ∀ v F' H', Same F F' → Same F' H' → (∀ b o, c.H0 b = some o → c.p ≠ some b → H' b = some o) → (∀ b o, F' b = some o → c.F0 b = some o ∨ c.H0 b = none) → rel F' H' v a → Q v H'
  | .err e => ∀ cl d F' H', Same F F' → Same F' H' → (∀ b o, c.H0 b = some o → c.p ≠ some b → H' b = some o) → (∀ b o, F' b = some o → c.F0 b = some o ∨ c.H0 b = none) → ExRep c.G F' e cl d → c.E cl d H'
  | .no => False
theorem Fin.mono {α : Type} {c : Cxt} {rel : Hp → Hp → V → α → Prop} {Q : VK} {F F1 : Hp} {r : Res α} (h : Same F F1) (p : Fin c rel Q F r) : Fin c rel Q F1 r := by
  cases r with
  | ok a => exact fun v F' H' s => p v F' H' (h.trans s)
  | err e => exact fun cl d F' H' s => p cl d F' H' (h.trans s)
  | no => exact p
abbrev Exit (α : Type) := Ros → Res α → Prop
/-- the statements read as t, begun where ρ is known, come to r; N, C, B: how they may be left to what follows, by continue, by break -/
def BX {α : Type} (c : Cxt) (rel : Hp → Hp → V → α → Prop) (t : TS) (ρ : Ros) (r : Res α) (N C B : Exit α) : Prop :=
  ∀ (D : Ends) (Q : VK) (σ : L2.St) (F H : Hp), D.rt = Q →
    (∀ σ' F' H' ρ' r', Same F F' → N ρ' r' → At c F' H' σ' ρ' → Fin c rel Q F' r' → D.nx σ' H') →
    (∀ σ' F' H' ρ' r', Same F F' → C ρ' r' → At c F' H' σ' ρ' → Fin c rel Q F' r' → D.ct σ' H') →
    (∀ σ' F' H' ρ' r', Same F F' → B ρ' r' → At c F' H' σ' ρ' → Fin c rel Q F' r' → D.bk σ' H') →
    At c F H σ ρ → Fin c rel Q F r → t D σ H
abbrev X0 {α : Type} : Exit α := fun _ _ => False
section
variable {α : Type} {c : Cxt} {rel : Hp → Hp → V → α → Prop} {t u : TS} {ρ ρ' : Ros} {r : Res α} {N N' C B : Exit α} {te : TE} {tt : TT} {X : Cx} {e : Expr} {m : Res Val} {mb : Res Bool}
theorem bx_seq (h1 : BX c rel t ρ r N' C B) (h2 : ∀ ρ' r', N' ρ' r' → BX c rel u ρ' r' N C B) : BX c rel (tSeq t u) ρ r N C B := by
  intro D Q σ F H hrt hn hc hb s p
  exact h1 { D with nx := u D } Q σ F H hrt (fun σ' F' H' ρ' r' a q s' p' => h2 ρ' r' q D Q σ' F' H' hrt (fun σ2 F2 H2 ρ2 r2 z => hn σ2 F2 H2 ρ2 r2 (a.trans z)) (fun σ2 F2 H2 ρ2 r2 z => hc σ2 F2 H2 ρ2 r2 (a.trans z)) (fun σ2 F2 H2 ρ2 r2 z => hb σ2 F2 H2 ρ2 r2 (a.trans z)) s' p') hc hb s p
/-- the block's end -/
theorem bx_end (w : Weak ρ ρ') (h : N ρ' r) : BX c rel tNext ρ r N C B := fun D Q σ F H _ hn _ _ s p => hn σ F H ρ' r (Same.refl _) h (s.weak w) p
theorem bx_weak (w : Weak ρ ρ') (h : BX c rel t ρ' r N C B) : BX c rel t ρ r N C B := fun D Q σ F H e hn hc hb s p => h D Q σ F H e hn hc hb (s.weak w) p
theorem bx_cont (w : Weak ρ ρ') (h : C ρ' r) : BX c rel tCont ρ r N C B := fun D Q σ F H _ _ hc _ s p => hc σ F H ρ' r (Same.refl _) h (s.weak w) p
theorem bx_break (w : Weak ρ ρ') (h : B ρ' r) : BX c rel tBreak ρ r N C B := fun D Q σ F H _ _ _ hb s p => hb σ F H ρ' r (Same.refl _) h (s.weak w) p
/-- nothing is promised of this way -/
theorem bx_no : BX c rel t ρ (.no : Res α) N C B := fun _ _ _ _ _ _ _ _ _ _ p => p.elim
/-- from an expression's end to the rest of the body -/
theorem fin_post {f : Val → Res α} {F H : Hp} {σ : L2.St} {Q : VK} {K : V → Hp → Prop} (s : At c F H σ ρ) (p : Fin c rel Q F (m >>= f))
    (h : ∀ x v F1 H1, m = .ok x → Grow F H F1 H1 → At c F1 H1 σ ρ → Rep c.G F1 x v → Fin c rel Q F1 (f x) → K v H1) : PostV c F H K m := by
  cases m with
  | ok x => exact fun v F1 H1 g r => h x v F1 H1 rfl g (s.grow g) r (Fin.mono g.ff p)
  | err e =>
    intro cl d F1 H1 g ee
    have s1 := s.grow g
    exact p cl d F1 H1 g.ff g.fh s1.kept s1.fresh ee
  | no => exact p
theorem fin_postB {f : Bool → Res α} {F H : Hp} {σ : L2.St} {Q : VK} {K : Bool → Hp → Prop} (s : At c F H σ ρ) (p : Fin c rel Q F (mb >>= f))
    (h : ∀ x F1 H1, mb = .ok x → Grow F H F1 H1 → At c F1 H1 σ ρ → Fin c rel Q F1 (f x) → K x H1) : PostB c F H K mb := by
  cases mb with
  | ok x =>
    intro v F1 H1 g r
    subst r
    exact h v F1 H1 rfl g (s.grow g) (Fin.mono g.ff p)
  | err e =>
    intro cl d F1 H1 g ee
    have s1 := s.grow g
    exact p cl d F1 H1 g.ff g.fh s1.kept s1.fresh ee
  | no => exact p
/-- x = e -/
theorem bx_set {i : Nat} {f : Val → Res α} (he : EX c X e te ρ m) (hi : i < c.n) (h : ∀ x, BX c rel tNext (ρ.set i (some (.val x))) (f x) N C B) : BX c rel (tAsg te (gName i)) ρ (m >>= f) N C B := by
  intro D Q σ F H hrt hn hc hb s p
  exact he.ev σ F H _ s (fin_post s p fun x v F1 H1 _ g s1 r1 p1 => h x D Q _ F1 H1 hrt (fun σ2 F2 H2 ρ2 r2 z => hn σ2 F2 H2 ρ2 r2 (g.ff.trans z)) (fun σ2 F2 H2 ρ2 r2 z => hc σ2 F2 H2 ρ2 r2 (g.ff.trans z)) (fun σ2 F2 H2 ρ2 r2 z => hb σ2 F2 H2 ρ2 r2 (g.ff.trans z)) (s1.store hi r1) p1)
/-- an expression whose value is dropped -/
theorem bx_expr {f : Val → Res α} (he : EX c X e te ρ m) (h : ∀ x, BX c rel tNext ρ (f x) N C B) : BX c rel (tDrop te) ρ (m >>= f) N C B := by
  intro D Q σ F H hrt hn hc hb s p
  exact he.ev σ F H _ s (fin_post s p fun x v F1 H1 _ g s1 r1 p1 => h x D Q _ F1 H1 hrt (fun σ2 F2 H2 ρ2 r2 z => hn σ2 F2 H2 ρ2 r2 (g.ff.trans z)) (fun σ2 F2 H2 ρ2 r2 z => hc σ2 F2 H2 ρ2 r2 (g.ff.trans z)) (fun σ2 F2 H2 ρ2 r2 z => hb σ2 F2 H2 ρ2 r2 (g.ff.trans z)) s1 p1)
/-- if -/
theorem bx_if {cnd : Expr} {r1 r2 : Res α} (he : ET c X cnd tt ρ mb) (h1 : BX c rel t ρ r1 N C B) (h2 : BX c rel u ρ r2 N C B) : BX c rel (tIfS tt t u) ρ (mb >>= fun k => if k = true then r1 else r2) N C B := by
  intro D Q σ F H hrt hn hc hb s p
  refine he.ev σ F H _ s (fin_postB s p fun x F1 H1 _ g s1 p1 => ?_)
  by_cases hx : x = true
  · rw [if_pos hx] at p1 ⊢
    exact h1 D Q σ F1 H1 hrt (fun σ2 F2 H2 ρ2 r2 z => hn σ2 F2 H2 ρ2 r2 (g.ff.trans z)) (fun σ2 F2 H2 ρ2 r2 z => hc σ2 F2 H2 ρ2 r2 (g.ff.trans z)) (fun σ2 F2 H2 ρ2 r2 z => hb σ2 F2 H2 ρ2 r2 (g.ff.trans z)) s1 p1
  · rw [if_neg hx] at p1 ⊢
    exact h2 D Q σ F1 H1 hrt (fun σ2 F2 H2 ρ2 r2 z => hn σ2 F2 H2 ρ2 r2 (g.ff.trans z)) (fun σ2 F2 H2 ρ2 r2 z => hc σ2 F2 H2 ρ2 r2 (g.ff.trans z)) (fun σ2 F2 H2 ρ2 r2 z => hb σ2 F2 H2 ρ2 r2 (g.ff.trans z)) s1 p1
/-- a list that is done with is held fast -/
theorem bx_freeze {i : Nat} {xs : List Val} (hi : ρ[i]? = some (some (.mut xs))) (h : BX c rel t (ρ.set i (some (.val (.lst xs)))) r N C B) : BX c rel t ρ r N C B := by
  intro D Q σ F H hrt hn hc hb s p
  obtain ⟨F', hF, s'⟩ := s.freeze hi
  exact h D Q σ F' H hrt (fun σ2 F2 H2 ρ2 r2 z => hn σ2 F2 H2 ρ2 r2 (hF.trans z)) (fun σ2 F2 H2 ρ2 r2 z => hc σ2 F2 H2 ρ2 r2 (hF.trans z)) (fun σ2 F2 H2 ρ2 r2 z => hb σ2 F2 H2 ρ2 r2 (hF.trans z)) s' (Fin.mono hF p)
end

/-! ### a def that changes nothing: its value -/
def relV (G : Glo) : Hp → Hp → V → Val → Prop := fun F _ v x => Rep G F x v
section
variable {c : Cxt} {t u : TS} {ρ : Ros} {N C B : Exit Val} {te : TE} {X : Cx} {e : Expr} {m : Res Val}
theorem bx_ret (he : EX c X e te ρ m) : BX c (relV c.G) (tRet te) ρ m N C B := by
  intro D Q σ F H hrt hn hc hb s p
  refine he.ev σ F H _ s ?_
  subst hrt
  cases m with
  | ok x =>
    intro v F1 H1 g r
    have s1 := s.grow g
    exact p v F1 H1 g.ff g.fh s1.kept s1.fresh r
  | err e =>
    intro cl d F1 H1 g ee
    have s1 := s.grow g
    exact p cl d F1 H1 g.ff g.fh s1.kept s1.fresh ee
  | no => exact p
theorem bx_retN : BX c (relV c.G) tRetN ρ (.ok .non) N C B := by
  intro D Q σ F H hrt hn hc hb s p
  subst hrt
  exact p .non F H (Same.refl _) s.sub s.kept s.fresh rfl
end
/-- the parameters' values, then slots not yet assigned -/
def rho (n : Nat) (xs : List Val) : Ros := xs.map (fun x => some (.val x)) ++ List.replicate (n - xs.length) none
section
variable {P : Program} {w : World} {K : PySem.W.Frag} {mg : Str → Option Value} {base : Heap}
theorem at_start {G : Glo} {E : XK} {F H : Hp} {N : List Str} {xs : List Val} {vs : List V} (h : Same F H) (r : RepL G F xs vs) (hl : vs.length ≤ N.length) : At ⟨G, E, H, F, none, N.length⟩ F H (L2.start N vs) (rho N.length xs) := by
  have hx : xs.length = vs.length := r.length.symm
  have q : ∀ {i : Nat} {y : Ent}, (rho N.length xs)[i]? = some (some y) → ∃ x, xs[i]? = some x ∧ y = .val x := fun {i y} e => by
    unfold rho at e
    by_cases hi : i < xs.length
    · rw [List.getElem?_append_left (by simpa using hi), List.getElem?_map] at e
      rw [List.getElem?_eq_getElem hi] at e ⊢
      simp at e
      exact ⟨_, rfl, e.symm⟩
    · rw [List.getElem?_append_right (by simpa using hi), List.getElem?_replicate] at e
      split at e <;> cases e
  refine ⟨h, fun a o e _ => e, fun a e => e, fun a o e => .inl e, Same.refl _, fun i x e => ?_, fun i xs e => ?_, fun i xs e => ?_, fun i k xs e => ?_, fun i j xs ys a _ e => ?_, fun a e => (nomatch e), ?_⟩
  · obtain ⟨y, e1, e2⟩ := q e
    cases e2
    obtain ⟨v, hv, rv⟩ := r.get e1
    refine ⟨v, ?_, rv⟩
    unfold L2.start
    have hi : i < vs.length := (List.getElem?_eq_some_iff.mp hv).1
    rw [List.getElem?_append_left (by simpa using hi), List.getElem?_map, hv]
    rfl
  · obtain ⟨y, e1, e2⟩ := q e; cases e2
  · obtain ⟨y, e1, e2⟩ := q e; cases e2
  · obtain ⟨y, e1, e2⟩ := q e; cases e2
  · obtain ⟨y, e1, e2⟩ := q e; cases e2
  · unfold L2.start
    rw [List.length_append, List.length_map, List.length_replicate]
    show _ = N.length
    omega
/-- what a body may use of its context -/
structure Bd (P : Program) (w : World) (k : Nat) (E : XK) (X : Cx) : Prop where
  room : Room k X.A
  pass : Passes (L2.CX P w) X E
  takes : Takes X (fun cls d _ H => E cls d H)
  own : PassesOwn (model X.prog X.w) X.A X.env X.xe
/-- a def of the text as it stands behind the top; dvs: its defaults -/
abbrev FnD (K : PySem.W.Frag) (x qual : Str) (st : Stmt) (dvs : List V) (f : Addr) (fd : FuncData) : Prop := FunD K x qual (defArgs st) (defBody st) (defScope st) dvs [] f fd
/-- THE RULE for a def without effects -/
theorem fnM {G : Glo} {x qual : Str} {st : Stmt} {f : Addr} {fd : FuncData} {N ps : List Str} {k n : Nat} {dvs : List V} {mm : List Val → Res Val} (Fd : FnD K x qual st dvs f fd) (S : FnScope N ps (defScope st)) (hn : ps.length = n)
    (hbody : ∀ (cdv : Value) (A : Around) (outer : List PySem.Env) (s : Shared) (H : Hp) (E : XK), Bd P w k E (cxOf (L2.CX P w) P w K mg base N qual (defScope st) f cdv A outer s H E) →
      ∃ t, PSs (cxOf (L2.CX P w) P w K mg base N qual (defScope st) f cdv A outer s H E) (defBody st) t ∧
      ∀ (F0 : Hp) (xs : List Val), xs.length = n → BX ⟨G, E, H, F0, none, N.length⟩ (relV G) t (rho N.length xs) (mm xs) (fun _ r => r = .ok .non) X0 X0) :
    FnOk P w K mg base (L2.CX P w) (k + 1) f fd ps (spM G n mm) := by
  refine FunD.ok Fd S (fun vs H Q E h => ?_) (fun cdv A outer s H vs Q E hr h => ?_)
  · obtain ⟨F, xs, _, _, e, _⟩ := h
    rw [e, hn]
  · obtain ⟨F, xs, hs, r, e, p⟩ := h
    have tk : Takes (cxOf (L2.CX P w) P w K mg base N qual (defScope st) f cdv A outer s H E) (fun cls d _ H => E cls d H) := takes_of rfl rfl rfl rfl
    obtain ⟨t, ht, hb⟩ := hbody cdv A outer s H E ⟨hr, passes_call tk fun _ _ _ _ h => h, tk, passes_of rfl⟩
    refine ⟨t, ht, ?_⟩
    have hl : vs.length ≤ N.length := by
      have := congrArg List.length S.pre
      rw [List.length_take] at this
      omega
    have s0 := at_start (G := G) (E := E) (N := N) hs r hl
    refine hb F xs (by rw [← r.length]; exact e) { nx := fun _ H' => Q .non H', rt := Q } Q _ F H rfl (fun σ' F' H' ρ' r' _ q s' p' => ?_) (fun _ _ _ _ _ _ z => z.elim) (fun _ _ _ _ _ _ z => z.elim) s0 ?_
    · subst q
      exact p' .non F' H' (Same.refl _) s'.sub s'.kept s'.fresh rfl
    · cases hm : mm xs with
      | no => rw [hm] at p; exact p
      | ok y =>
        rw [hm] at p
        exact fun v F' H' a1 a2 a3 a4 a5 => p v F' H' ⟨a1, a2, fun b o q => a3 b o q (fun z => nomatch z), a4⟩ a5
      | err ex =>
        rw [hm] at p
        exact fun cl d F' H' a1 a2 a3 a4 a5 => p cl d F' H' ⟨a1, a2, fun b o q => a3 b o q (fun z => nomatch z), a4⟩ a5
end
end Mir
namespace Mir
open PySem PySem.Spec PyProof.Rows L2

/-! ### targets -/
/-- the value x is bound by the target g: r is what is to come, P how it goes on -/
def GX {α : Type} (c : Cxt) (g : TG) (ρ : Ros) (x : Val) (r : Res α) (P : Exit α) : Prop :=
  ∀ (S : Res α → Prop) (v : V) (σ : L2.St) (F H : Hp) (K : L2.St → Hp → Prop), ¬ S .no → At c F H σ ρ → Rep c.G F x v → S r →
    (∀ σ' ρ' r', P ρ' r' → At c F H σ' ρ' → S r' → K σ' H) → g v σ H K
/-- .. and the slots that it stores are among these -/
def GXs {α : Type} (c : Cxt) (g : TG) (ρ : Ros) (x : Val) (r : Res α) (vs : List Nat) (P : Exit α) : Prop :=
  ∀ (S : Res α → Prop) (v : V) (σ : L2.St) (F H : Hp) (K : L2.St → Hp → Prop), ¬ S .no → At c F H σ ρ → Rep c.G F x v → S r →
    (∀ σ' ρ' r', P ρ' r' → wipe σ' vs = wipe σ vs → At c F H σ' ρ' → S r' → K σ' H) → g v σ H K
theorem wipe_set (σ : L2.St) (i : Nat) (v : Option V) : ∀ vs : List Nat, i ∈ vs → wipe (σ.set i v) vs = wipe σ vs
  | [], h => by simp at h
  | w :: ws, h => by
    unfold wipe
    by_cases e : i = w
    · subst e
      by_cases hm : i ∈ ws
      · rw [wipe_set σ i v ws hm]
      · have : ∀ (ws : List Nat) (σ : L2.St), i ∉ ws → (wipe (σ.set i v) ws) = (wipe σ ws).set i v := by
          intro ws
          induction ws with
          | nil => intro σ _; rfl
          | cons u us ih =>
            intro σ hn
            unfold wipe
            rw [ih σ (fun z => hn (List.mem_cons_of_mem _ z)), List.set_comm]
            exact fun z => hn (by rw [z]; exact List.mem_cons_self)
        rw [this ws σ hm, List.set_set]
    · have hm : i ∈ ws := by
        rcases List.mem_cons.mp h with z | z
        · exact absurd z e
        · exact z
      rw [wipe_set σ i v ws hm]
theorem wipe_wipe (σ : L2.St) : ∀ vs ws : List Nat, (∀ v ∈ ws, v ∈ vs) → wipe (wipe σ ws) vs = wipe σ vs
  | vs, [], _ => rfl
  | vs, w :: ws, h => by
    show wipe ((wipe σ ws).set w none) vs = wipe σ vs
    rw [wipe_set _ _ _ vs (h w List.mem_cons_self)]
    exact wipe_wipe σ vs ws fun v hv => h v (List.mem_cons_of_mem _ hv)
/-- a pair's, a triple's items -/
def un2 {α : Type} (x : Val) (k : Val → Val → Res α) : Res α := match x with
  | .tup [a, b] => k a b
  | _ => .no
def un3 {α : Type} (x : Val) (k : Val → Val → Val → Res α) : Res α := match x with
  | .tup [a, b, d] => k a b d
  | _ => .no
@[simp] theorem un2_eq {α : Type} {a b : Val} {k : Val → Val → Res α} : un2 (.tup [a, b]) k = k a b := rfl
@[simp] theorem un3_eq {α : Type} {a b d : Val} {k : Val → Val → Val → Res α} : un3 (.tup [a, b, d]) k = k a b d := rfl
section
variable {α : Type} {c : Cxt} {ρ : Ros} {x : Val} {r : Res α} {P : Exit α} {i j l : Nat} {vs : List Nat}
theorem gxs_name (hi : i < c.n) (hv : i ∈ vs) (h : P (ρ.set i (some (.val x))) r) : GXs c (gName i) ρ x r vs P := fun S v σ F H K _ s rx sr k => k _ _ _ h (wipe_set _ _ _ _ hv) (s.store hi rx) sr
theorem gx_name (hi : i < c.n) (h : P (ρ.set i (some (.val x))) r) : GX c (gName i) ρ x r P := fun S v σ F H K _ s rx sr k => k _ _ _ h (s.store hi rx) sr
theorem un2_some {S : Res α → Prop} (hS : ¬ S .no) {k : Val → Val → Res α} (h : S (un2 x k)) : ∃ a b, x = .tup [a, b] ∧ S (k a b) := by
  unfold un2 at h
  split at h
  · exact ⟨_, _, rfl, h⟩
  · exact absurd h hS
theorem un3_some {S : Res α → Prop} (hS : ¬ S .no) {k : Val → Val → Val → Res α} (h : S (un3 x k)) : ∃ a b d, x = .tup [a, b, d] ∧ S (k a b d) := by
  unfold un3 at h
  split at h
  · exact ⟨_, _, _, rfl, h⟩
  · exact absurd h hS
theorem rep_tup {F : Hp} {G : Glo} {xs : List Val} {v : V} (r : Rep G F (.tup xs) v) : ∃ a vs, v = .ref a ∧ SqT G.K F a vs ∧ vs.length ≤ LIM ∧ RepL G F xs vs := by simpa [Rep] using r
theorem rep_lst {F : Hp} {G : Glo} {xs : List Val} {v : V} (r : Rep G F (.lst xs) v) : ∃ a vs, v = .ref a ∧ SqL G.K F a vs ∧ vs.length ≤ LIM ∧ RepL G F xs vs := by simpa [Rep] using r
theorem repL2 {F : Hp} {G : Glo} {a b : Val} {vs : List V} (r : RepL G F [a, b] vs) : ∃ v w, vs = [v, w] ∧ Rep G F a v ∧ Rep G F b w := by
  simp only [RepL] at r
  obtain ⟨v, _, rfl, h1, w, _, rfl, h2, rfl⟩ := r
  exact ⟨v, w, rfl, h1, h2⟩
theorem repL3 {F : Hp} {G : Glo} {a b d : Val} {vs : List V} (r : RepL G F [a, b, d] vs) : ∃ v w u, vs = [v, w, u] ∧ Rep G F a v ∧ Rep G F b w ∧ Rep G F d u := by
  simp only [RepL] at r
  obtain ⟨v, _, rfl, h1, w, _, rfl, h2, u, _, rfl, h3, rfl⟩ := r
  exact ⟨v, w, u, rfl, h1, h2, h3⟩
/-- a, b = x: the targets one by one -/
theorem gxs_tup2 {g1 g2 : TG} {K : PySem.W.Frag} (hK : K = c.G.K) {k : Val → Val → Res α} (h : ∀ a b, GXs c g1 ρ a (k a b) vs (fun ρ' r' => GXs c g2 ρ' b r' vs P)) :
    GXs c (gTup K 2 (gCons g1 (gCons g2 gNil))) ρ x (un2 x k) vs P := by
  intro S v σ F H Kn hS s rx sr kn
  obtain ⟨a, b, rfl, sr⟩ := un2_some hS sr
  obtain ⟨p, ws, rfl, hq, hl, rl⟩ := rep_tup rx
  obtain ⟨v1, v2, rfl, r1, r2⟩ := repL2 rl
  subst hK
  refine ⟨p, _, rfl, sqT_mono s.sub hq, rfl, v1, _, rfl, ?_⟩
  refine h a b S v1 σ F H _ hS s r1 sr fun σ1 ρ1 r1' q hw s1 sr1 => ⟨v2, [], rfl, ?_⟩
  refine q S v2 σ1 F H _ hS s1 r2 sr1 fun σ2 ρ2 r2' q2 hw2 s2 sr2 => ⟨rfl, kn σ2 ρ2 r2' q2 (hw2.trans hw) s2 sr2⟩
theorem gxs_tup3 {g1 g2 g3 : TG} {K : PySem.W.Frag} (hK : K = c.G.K) {k : Val → Val → Val → Res α} (h : ∀ a b d, GXs c g1 ρ a (k a b d) vs (fun ρ' r' => GXs c g2 ρ' b r' vs fun ρ'' r'' => GXs c g3 ρ'' d r'' vs P)) :
    GXs c (gTup K 3 (gCons g1 (gCons g2 (gCons g3 gNil)))) ρ x (un3 x k) vs P := by
  intro S v σ F H Kn hS s rx sr kn
  obtain ⟨a, b, d, rfl, sr⟩ := un3_some hS sr
  obtain ⟨p, ws, rfl, hq, hl, rl⟩ := rep_tup rx
  obtain ⟨v1, v2, v3, rfl, r1, r2, r3⟩ := repL3 rl
  subst hK
  refine ⟨p, _, rfl, sqT_mono s.sub hq, rfl, v1, _, rfl, ?_⟩
  refine h a b d S v1 σ F H _ hS s r1 sr fun σ1 ρ1 r1' q hw s1 sr1 => ⟨v2, _, rfl, ?_⟩
  refine q S v2 σ1 F H _ hS s1 r2 sr1 fun σ2 ρ2 r2' q2 hw2 s2 sr2 => ⟨v3, [], rfl, ?_⟩
  refine q2 S v3 σ2 F H _ hS s2 r3 sr2 fun σ3 ρ3 r3' q3 hw3 s3 sr3 => ⟨rfl, kn σ3 ρ3 r3' q3 ((hw3.trans hw2).trans hw) s3 sr3⟩
theorem GXs.gx {g : TG} (h : GXs c g ρ x r vs P) : GX c g ρ x r P := fun S v σ F H K hS s rx sr k => h S v σ F H K hS s rx sr fun σ' ρ' r' q _ s' sr' => k σ' ρ' r' q s' sr'
end

/-! ### what is walked -/
/-- J hands out what xs tells, one by one -/
def Wlk (G : Glo) (F : Hp) (xs : List Val) (J : It) : Prop := ∀ (i : Nat) (F1 H1 : Hp), Same F F1 → Same F1 H1 → i ≤ xs.length → (i = xs.length → J.stop i H1) ∧ ∀ x, xs[i]? = some x → J.go i H1 ∧ ∀ v H2, J.yld i H1 v H2 → ∃ F2, Grow F1 H1 F2 H2 ∧ Rep G F2 x v
structure EI (c : Cxt) (X : Cx) (tg it : Expr) (wi : TI) (ρ : Ros) (m : Res (List Val)) : Prop where
  pi : PI X tg it wi
  ev : ∀ σ F H R, At c F H σ ρ → PostX c.G c.E (Wlk c.G) F H R m → wi σ H R
  lim : ∀ xs, m = .ok xs → xs.length ≤ LIM
/-- the items of a list or tuple -/
def items : Val → Res (List Val)
  | .lst xs => if xs.length ≤ LIM then .ok xs else .no
  | .tup xs => if xs.length ≤ LIM then .ok xs else .no
  | _ => .no
section
variable {c : Cxt} {X : Cx} {tg e a b : Expr} {es : List Expr} {ta tb te : TE} {tA : TA} {ρ : Ros} {m m1 m2 : Res Val} {ml : Res (List Val)} {pos : Pos} {F H : Hp}
theorem lim_items {m : Res Val} : ∀ xs, (m >>= items) = .ok xs → xs.length ≤ LIM := by
  intro xs h
  cases m with
  | err e => cases h
  | no => cases h
  | ok x =>
    cases x with
    | lst ys =>
      simp only [ok_bind, items] at h
      split at h
      · cases h; assumption
      · cases h
    | tup ys =>
      simp only [ok_bind, items] at h
      split at h
      · cases h; assumption
      · cases h
    | _ => cases h
theorem wlk_tup {p : Addr} {xs : List Val} {vs : List V} (hq : SqT c.G.K F p vs) (rl : RepL c.G F xs vs) : Wlk c.G F xs (Itt c.G.K p) := by
  intro i F1 H1 h1 h2 hi
  have q1 := sqT_mono h2 (sqT_mono h1 hq)
  refine ⟨fun e => ⟨vs, q1, by rw [rl.length, e]; exact Nat.le_refl _⟩, fun x hx => ?_⟩
  obtain ⟨v, hv, rv⟩ := rl.get hx
  refine ⟨⟨vs, v, q1, hv⟩, fun w H2 y => ?_⟩
  obtain ⟨rfl, y⟩ := y
  have e : w = v := by
    have := y vs q1
    rw [hv] at this
    cases this; rfl
  subst e
  exact ⟨F1, Grow.refl h2, rv.mono h1⟩
theorem wlk_list' {p : Addr} {xs : List Val} {vs : List V} (hq : SqL c.G.K F p vs) (rl : RepL c.G F xs vs) : Wlk c.G F xs (Itl c.G.K p) := by
  intro i F1 H1 h1 h2 hi
  have q1 := sqL_mono h2 (sqL_mono h1 hq)
  refine ⟨fun e => ⟨vs, q1, by rw [rl.length, e]; exact Nat.le_refl _⟩, fun x hx => ?_⟩
  obtain ⟨v, hv, rv⟩ := rl.get hx
  refine ⟨⟨vs, v, q1, hv⟩, fun w H2 y => ?_⟩
  obtain ⟨rfl, y⟩ := y
  have e : w = v := by
    have := y vs q1
    rw [hv] at this
    cases this; rfl
  subst e
  exact ⟨F1, Grow.refl h2, rv.mono h1⟩
/-- over a list or a tuple -/
def iSeq (K : PySem.W.Frag) (te : TE) : TI := fun σ H R => iList K te σ H R ∨ iTup K te σ H R
theorem pi_seq (h : PE X e te) : PI X tg e (iSeq X.K te) := ⟨fun pins s σ H R I q => q.elim (fun q => (pi_list h).run pins s σ H R I q) fun q => (pi_tup h).run pins s σ H R I q⟩
theorem ei_seq (h : EX c X e te ρ m) (hK : X.K = c.G.K) : EI c X tg e (iSeq c.G.K te) ρ (m >>= items) := by
  refine ⟨by rw [← hK]; exact pi_seq h.pe, fun σ F H R s p => ?_, lim_items⟩
  cases m with
  | err e => exact .inl (h.ev σ F H _ s p)
  | no => exact p.elim
  | ok x =>
    cases x with
    | lst xs =>
      have p : PostX c.G c.E (Wlk c.G) F H R (if xs.length ≤ LIM then .ok xs else .no) := p
      split at p
      · refine .inl (h.ev σ F H _ s fun v F1 H1 g r => ?_)
        obtain ⟨a, vs, rfl, hq, hl, rl⟩ := rep_lst r
        exact ⟨a, rfl, ⟨vs, sqL_mono g.fh hq⟩, p _ F1 H1 g (wlk_list' hq rl)⟩
      · exact p.elim
    | tup xs =>
      have p : PostX c.G c.E (Wlk c.G) F H R (if xs.length ≤ LIM then .ok xs else .no) := p
      split at p
      · refine .inr (h.ev σ F H _ s fun v F1 H1 g r => ?_)
        obtain ⟨a, vs, rfl, hq, hl, rl⟩ := rep_tup r
        exact ⟨a, rfl, ⟨vs, sqT_mono g.fh hq⟩, p _ F1 H1 g (wlk_tup hq rl)⟩
      · exact p.elim
    | _ => exact p.elim
/-- range(n), range(a, b) -/
def rng (lo hi : Int) : Res (List Val) := if -(2 ^ 62) ≤ lo ∧ lo < 2 ^ 62 ∧ -(2 ^ 62) ≤ hi ∧ hi < 2 ^ 62 ∧ (hi - lo).toNat ≤ LIM then .ok ((List.range (hi - lo).toNat).map fun (i : Nat) => Val.int (lo + (i : Int))) else .no
def rng1 : List Val → Res (List Val)
  | [.int n] => rng 0 n
  | _ => .no
def rng2 : List Val → Res (List Val)
  | [.int a, .int b] => rng a b
  | _ => .no
theorem wlk_rng {lo : Int} {n : Nat} : Wlk c.G F ((List.range n).map fun (i : Nat) => Val.int (lo + (i : Int))) (Itr lo n) := by
  intro i F1 H1 h1 h2 hi
  have hl : ((List.range n).map fun i : Nat => Val.int (lo + i)).length = n := by simp
  refine ⟨fun e => by show n ≤ i; omega, fun x hx => ?_⟩
  have hin : i < n := by rw [← hl]; exact (List.getElem?_eq_some_iff.mp hx).1
  refine ⟨hin, fun v H2 y => ?_⟩
  obtain ⟨rfl, rfl⟩ := y
  refine ⟨F1, Grow.refl h2, ?_⟩
  have e : x = .int (lo + i) := by
    rw [List.getElem?_map, List.getElem?_range hin] at hx
    simpa using hx.symm
  subst e
  rfl
theorem ei_rng1 {p : Pos} (hg : Gl X "range") (hm : X.mg "range" = none) (h : EA c X [a] tA ρ ml) (hs : starEach [a] X.env = [(false, eval a X.env)] := by rfl) : EI c X tg (.Call (.Name "range" p) [a] [] pos) (iRng1 tA) ρ (ml >>= rng1) := by
  refine ⟨pi_range1 hg hm h.pa hs, fun σ F H R s q => h.ev σ F H _ s ?_, ?_⟩
  · cases ml with
    | err e => exact q
    | no => exact q
    | ok xs =>
      intro vs F1 H1 g r
      have p1 : PostX c.G c.E (Wlk c.G) F1 H1 R (rng1 xs) := PostX.grow g q
      unfold rng1 at p1
      split at p1
      · rename_i n
        simp only [RepL] at r
        obtain ⟨v, _, rfl, hv, rfl⟩ := r
        have e : v = .int n := hv
        subst e
        unfold rng at p1
        split at p1
        · rename_i hh
          rw [Int.sub_zero] at p1
          exact ⟨n, rfl, hh.2.2.1, hh.2.2.2.1, p1.done g.fh wlk_rng⟩
        · exact p1.elim
      · exact p1.elim
  · intro xs h
    cases ml with
    | err e => cases h
    | no => cases h
    | ok ys =>
      simp only [ok_bind] at h
      unfold rng1 at h
      split at h
      · unfold rng at h
        split at h
        · rename_i hh
          cases h
          simpa using hh.2.2.2.2
        · cases h
      · cases h
theorem ei_rng2 {p : Pos} (hg : Gl X "range") (hm : X.mg "range" = none) (h : EA c X [a, b] tA ρ ml) (hs : starEach [a, b] X.env = [(false, eval a X.env), (false, eval b X.env)] := by rfl) (hs2 : starEach [b] X.env = [(false, eval b X.env)] := by rfl) :
    EI c X tg (.Call (.Name "range" p) [a, b] [] pos) (iRng2 tA) ρ (ml >>= rng2) := by
  refine ⟨pi_range2 hg hm h.pa hs hs2, fun σ F H R s q => h.ev σ F H _ s ?_, ?_⟩
  · cases ml with
    | err e => exact q
    | no => exact q
    | ok xs =>
      intro vs F1 H1 g r
      have p1 : PostX c.G c.E (Wlk c.G) F1 H1 R (rng2 xs) := PostX.grow g q
      unfold rng2 at p1
      split at p1
      · rename_i x y
        obtain ⟨v, w, rfl, hv, hw⟩ := repL2 r
        have e : v = .int x := hv
        subst e
        have e : w = .int y := hw
        subst e
        unfold rng at p1
        split at p1
        · rename_i hh
          exact ⟨x, y, rfl, ⟨hh.1, hh.2.1, hh.2.2.1, hh.2.2.2.1⟩, p1.done g.fh wlk_rng⟩
        · exact p1.elim
      · exact p1.elim
  · intro xs h
    cases ml with
    | err e => cases h
    | no => cases h
    | ok ys =>
      simp only [ok_bind] at h
      unfold rng2 at h
      split at h
      · unfold rng at h
        split at h
        · rename_i hh
          cases h
          simpa using hh.2.2.2.2
        · cases h
      · cases h
end
end Mir
namespace Mir
open PySem PySem.Spec PyProof.Rows L2

section
variable {c : Cxt} {X : Cx} {tg e a b : Expr} {es : List Expr} {ta tb te : TE} {tA : TA} {ρ : Ros} {m m1 m2 : Res Val} {ml : Res (List Val)} {pos : Pos} {F H : Hp}
/-- enumerate(xs), zip(xs, ys) -/
def enumL (xs : List Val) : List Val := xs.zipIdx.map fun p => .tup [.int (p.2 : Int), p.1]
def zipL (xs ys : List Val) : List Val := (xs.zip ys).map fun p => .tup [p.1, p.2]
def enum1 : List Val → Res (List Val)
  | [.lst xs] => items (.lst xs) >>= fun xs => .ok (enumL xs)
  | _ => .no
def zip2 : List Val → Res (List Val)
  | [.lst xs, .lst ys] => items (.lst xs) >>= fun xs => items (.lst ys) >>= fun ys => .ok (zipL xs ys)
  | [.tup xs, .tup ys] => items (.tup xs) >>= fun xs => items (.tup ys) >>= fun ys => .ok (zipL xs ys)
  | _ => .no
theorem lim_enum1 {ys xs : List Val} (h : enum1 ys = .ok xs) : xs.length ≤ LIM := by
  unfold enum1 at h
  split at h
  · rename_i ws
    simp only [items] at h
    split at h
    · cases h
      simpa [enumL]
    · cases h
  · cases h
theorem lim_zip2 {ys xs : List Val} (h : zip2 ys = .ok xs) : xs.length ≤ LIM := by
  unfold zip2 at h
  split at h
  all_goals first
    | cases h
    | (rename_i u w
       simp only [items] at h
       split at h
       · simp only [ok_bind] at h
         split at h
         · cases h
           have e : (zipL u w).length = min u.length w.length := by simp [zipL]
           omega
         · cases h
       · cases h)
theorem new_pair {G : Glo} {F1 H1 : Hp} {T : Addr} {x y : Val} {v w : V} (h : Same F1 H1) (n : H1 T = none) (r1 : Rep G F1 x v) (r2 : Rep G F1 y w) : ∃ F2, Grow F1 H1 F2 (upd H1 T (.tup [v, w])) ∧ Rep G F2 (.tup [x, y]) (.ref T) := by
  have g := Grow.new (o := .tup [v, w]) h n
  refine ⟨_, g, ?_⟩
  simp only [Rep]
  exact ⟨T, [v, w], rfl, .inl (.inl upd_same), by show 2 ≤ LIM; decide, RepL.cons (r1.mono g.ff) (RepL.cons (r2.mono g.ff) RepL.nil)⟩
theorem wlk_enum {p : Addr} {xs : List Val} {vs : List V} (hq : SqL c.G.K F p vs) (rl : RepL c.G F xs vs) : Wlk c.G F (enumL xs) (Ite c.G.K p) := by
  intro i F1 H1 h1 h2 hi
  have q1 := sqL_mono h2 (sqL_mono h1 hq)
  have hlen : (enumL xs).length = xs.length := by simp [enumL]
  refine ⟨fun e => ⟨vs, q1, by rw [rl.length, e, hlen]; exact Nat.le_refl _⟩, fun x hx => ?_⟩
  have hix : i < xs.length := by rw [← hlen]; exact (List.getElem?_eq_some_iff.mp hx).1
  obtain ⟨v, hv, rv⟩ := rl.get (List.getElem?_eq_getElem hix)
  refine ⟨⟨vs, v, q1, hv⟩, fun w H2 y => ?_⟩
  obtain ⟨T, z, rfl, nT, rfl, y⟩ := y
  have e : z = v := by
    have := y vs q1
    rw [hv] at this
    cases this; rfl
  subst e
  have ex : x = .tup [.int (i : Int), xs[i]] := by
    simp [enumL, hix] at hx
    exact hx.symm
  subst ex
  exact new_pair (x := .int (i : Int)) (v := .int (i : Int)) h2 nT rfl (rv.mono h1)
theorem zip_get {xs ys : List Val} {i : Nat} {x : Val} (h : (zipL xs ys)[i]? = some x) : ∃ a b, xs[i]? = some a ∧ ys[i]? = some b ∧ x = .tup [a, b] := by
  simp only [zipL, List.getElem?_map, Option.map_eq_some_iff] at h
  obtain ⟨⟨a, b⟩, h1, h2⟩ := h
  rw [List.getElem?_zip_eq_some] at h1
  exact ⟨a, b, h1.1, h1.2, h2.symm⟩
theorem wlk_zip {p q : Addr} {xs ys : List Val} {vs ws : List V} (hq : SqL c.G.K F p vs) (rl : RepL c.G F xs vs) (hq' : SqL c.G.K F q ws) (rl' : RepL c.G F ys ws) : Wlk c.G F (zipL xs ys) (Itz c.G.K p q) := by
  intro i F1 H1 h1 h2 hi
  have q1 := sqL_mono h2 (sqL_mono h1 hq)
  have q2 := sqL_mono h2 (sqL_mono h1 hq')
  have hlen : (zipL xs ys).length = min xs.length ys.length := by simp [zipL]
  have l1 := rl.length
  have l2 := rl'.length
  refine ⟨fun e => ⟨vs, ws, q1, q2, by omega⟩, fun x hx => ?_⟩
  obtain ⟨a, b, ha, hb, rfl⟩ := zip_get hx
  obtain ⟨v, hv, rv⟩ := rl.get ha
  obtain ⟨w, hw, rw'⟩ := rl'.get hb
  refine ⟨⟨vs, ws, v, w, q1, q2, hv, hw⟩, fun u H2 y => ?_⟩
  obtain ⟨T, z, z', rfl, nT, rfl, y, y'⟩ := y
  have e : z = v := by
    have := y vs q1
    rw [hv] at this
    cases this; rfl
  have e' : z' = w := by
    have := y' ws q2
    rw [hw] at this
    cases this; rfl
  subst e e'
  exact new_pair h2 nT (rv.mono h1) (rw'.mono h1)
theorem wlk_zipT {p q : Addr} {xs ys : List Val} {vs ws : List V} (hq : SqT c.G.K F p vs) (rl : RepL c.G F xs vs) (hq' : SqT c.G.K F q ws) (rl' : RepL c.G F ys ws) : Wlk c.G F (zipL xs ys) (RZ.ItzT c.G.K p q) := by
  intro i F1 H1 h1 h2 hi
  have q1 := sqT_mono h2 (sqT_mono h1 hq)
  have q2 := sqT_mono h2 (sqT_mono h1 hq')
  have hlen : (zipL xs ys).length = min xs.length ys.length := by simp [zipL]
  have l1 := rl.length
  have l2 := rl'.length
  refine ⟨fun e => ⟨vs, ws, q1, q2, by omega⟩, fun x hx => ?_⟩
  obtain ⟨a, b, ha, hb, rfl⟩ := zip_get hx
  obtain ⟨v, hv, rv⟩ := rl.get ha
  obtain ⟨w, hw, rw'⟩ := rl'.get hb
  refine ⟨⟨vs, ws, v, w, q1, q2, hv, hw⟩, fun u H2 y => ?_⟩
  obtain ⟨T, z, z', rfl, nT, rfl, y, y'⟩ := y
  have e : z = v := by
    have := y vs q1
    rw [hv] at this
    cases this; rfl
  have e' : z' = w := by
    have := y' ws q2
    rw [hw] at this
    cases this; rfl
  subst e e'
  exact new_pair h2 nT (rv.mono h1) (rw'.mono h1)
theorem ei_enum {p tpos : Pos} {elts : List Expr} {kk : Nat} (hg : Gl X "enumerate") (hm : X.mg "enumerate" = none) (h : EA c X [e] tA ρ ml) (hK : X.K = c.G.K) (hs : starEach [e] X.env = [(false, eval e X.env)] := by rfl) :
    EI c X (.Tuple elts kk tpos) (.Call (.Name "enumerate" p) [e] [] pos) (iEnum c.G.K tA) ρ (ml >>= enum1) := by
  refine ⟨by rw [← hK]; exact pi_enum hg hm h.pa hs, fun σ F H R s q => h.ev σ F H _ s ?_, ?_⟩
  · cases ml with
    | err e => exact q
    | no => exact q
    | ok xs =>
      intro vs F1 H1 g r
      have p1 : PostX c.G c.E (Wlk c.G) F1 H1 R (enum1 xs) := PostX.grow g q
      unfold enum1 at p1
      split at p1
      · rename_i ys
        simp only [RepL] at r
        obtain ⟨v, _, rfl, hv, rfl⟩ := r
        obtain ⟨a, ws, rfl, hq, hl, rl⟩ := rep_lst hv
        have p1 : PostX c.G c.E (Wlk c.G) F1 H1 R ((if ys.length ≤ LIM then .ok ys else .no) >>= fun xs => .ok (enumL xs)) := p1
        split at p1
        · exact ⟨a, ws, rfl, sqL_mono g.fh hq, p1.done g.fh (wlk_enum hq rl)⟩
        · exact p1.elim
      · exact p1.elim
  · intro xs h'
    cases ml with
    | err e => cases h'
    | no => cases h'
    | ok ys => exact lim_enum1 h'
theorem ei_zip {p tpos : Pos} {elts : List Expr} {kk : Nat} (hg : Gl X "zip") (hm : X.mg "zip" = none) (h : EA c X [a, b] tA ρ ml) (hK : X.K = c.G.K)
    (hs : starEach [a, b] X.env = (false, eval a X.env) :: starEach [b] X.env := by rfl) (hpl : (backTo pos (starEach [b] X.env)).any (·.1) = false := by rfl) :
    EI c X (.Tuple elts kk tpos) (.Call (.Name "zip" p) [a, b] [] pos) (RZ.iZipA c.G.K tA) ρ (ml >>= zip2) := by
  refine ⟨by rw [← hK]; exact RZ.pi_zipA hg hm h.pa hs hpl, fun σ F H R s q => h.ev σ F H _ s ?_, ?_⟩
  · cases ml with
    | err e => exact q
    | no => exact q
    | ok xs =>
      intro vs F1 H1 g r
      have p1 : PostX c.G c.E (Wlk c.G) F1 H1 R (zip2 xs) := PostX.grow g q
      unfold zip2 at p1
      split at p1
      · rename_i ys zs
        obtain ⟨v, w, rfl, hv, hw⟩ := repL2 r
        obtain ⟨a1, us, rfl, hq, hl, rl⟩ := rep_lst hv
        obtain ⟨a2, ws, rfl, hq', hl', rl'⟩ := rep_lst hw
        have p1 : PostX c.G c.E (Wlk c.G) F1 H1 R ((if ys.length ≤ LIM then .ok ys else .no) >>= fun xs => (if zs.length ≤ LIM then .ok zs else .no) >>= fun ys => .ok (zipL xs ys)) := p1
        split at p1
        · simp only [ok_bind] at p1
          split at p1
          · exact ⟨a1, a2, us, ws, rfl, .inl ⟨sqL_mono g.fh hq, sqL_mono g.fh hq', p1.done g.fh (wlk_zip hq rl hq' rl')⟩⟩
          · exact p1.elim
        · exact p1.elim
      · rename_i ys zs
        obtain ⟨v, w, rfl, hv, hw⟩ := repL2 r
        obtain ⟨a1, us, rfl, hq, hl, rl⟩ := rep_tup hv
        obtain ⟨a2, ws, rfl, hq', hl', rl'⟩ := rep_tup hw
        have p1 : PostX c.G c.E (Wlk c.G) F1 H1 R ((if ys.length ≤ LIM then .ok ys else .no) >>= fun xs => (if zs.length ≤ LIM then .ok zs else .no) >>= fun ys => .ok (zipL xs ys)) := p1
        split at p1
        · simp only [ok_bind] at p1
          split at p1
          · exact ⟨a1, a2, us, ws, rfl, .inr ⟨sqT_mono g.fh hq, sqT_mono g.fh hq', p1.done g.fh (wlk_zipT hq rl hq' rl')⟩⟩
          · exact p1.elim
        · exact p1.elim
      · exact p1.elim
  · intro xs h'
    cases ml with
    | err e => cases h'
    | no => cases h'
    | ok ys => exact lim_zip2 h'

/-! ### loops -/
/-- for x in ..: loop tells what the rest comes to, from the items left and the names' values s -/
theorem bx_for {α S : Type} {rel : Hp → Hp → V → α → Prop} {wi : TI} {g : TG} {tb tr : TS} {it : Expr} {N C B : Exit α} {mi : Res (List Val)} (loop : List Val → S → Res α) (ρh : S → Ros) (s0 : S)
    (hi : EI c X tg it wi ρ mi) (hw : Weak ρ (ρh s0))
    (hb : ∀ x xs s, GX c g (ρh s) x (loop (x :: xs) s) (fun ρ' r' => BX c rel tb ρ' r' (fun ρ2 r2 => ∃ s', ρ2 = ρh s' ∧ r2 = loop xs s') (fun ρ2 r2 => ∃ s', ρ2 = ρh s' ∧ r2 = loop xs s') (fun ρ2 r2 => ∃ s', ρ2 = ρh s' ∧ r2 = loop [] s')))
    (hd : ∀ s, BX c rel tr (ρh s) (loop [] s) N C B) : BX c rel (tSeq (tFor wi g tb) tr) ρ (mi >>= fun xs => loop xs s0) N C B := by
  intro D Q σ F H hrt hn hc hbk s p
  refine hi.ev σ F H _ s ?_
  cases mi with
  | no => exact p
  | err e =>
    intro cl d F1 H1 g ee
    have s1 := s.grow g
    exact p cl d F1 H1 g.ff g.fh s1.kept s1.fresh ee
  | ok xs =>
    intro J F1 H1 g1 wk
    have p1 : Fin c rel Q F1 (loop xs s0) := Fin.mono g1.ff p
    have s1 := (s.grow g1).weak hw
    refine ⟨fun i m σ H => m = xs.length - i ∧ i ≤ xs.length ∧ ∃ st F2, Same F1 F2 ∧ At c F2 H σ (ρh st) ∧ Fin c rel Q F2 (loop (xs.drop i) st), ⟨_, rfl, Nat.zero_le _, s0, F1, Same.refl _, s1, p1⟩, ?_⟩
    rintro i m σ' H' ⟨rfl, hi, st, F2, hF, s2, p2⟩
    obtain ⟨w1, w2⟩ := wk i F2 H' hF s2.sub hi
    by_cases hlt : i < xs.length
    · right
      obtain ⟨hgo, hy⟩ := w2 xs[i] (List.getElem?_eq_getElem hlt)
      refine ⟨hgo, fun σ2 H2 => ∃ st F3, Same F1 F3 ∧ At c F3 H2 σ2 (ρh st) ∧ Fin c rel Q F3 (loop (xs.drop (i + 1)) st), fun σ2 H2 ⟨st', F3, a1, a2, a3⟩ => ⟨xs.length - (i + 1), by omega, rfl, hlt, st', F3, a1, a2, a3⟩, fun v H2 y => ?_⟩
      obtain ⟨F3, g3, rv⟩ := hy v H2 y
      have s3 := s2.grow g3
      rw [List.drop_eq_getElem_cons hlt] at p2
      have p3 : Fin c rel Q F3 (loop (xs[i] :: xs.drop (i + 1)) st) := Fin.mono g3.ff p2
      refine hb xs[i] (xs.drop (i + 1)) st (Fin c rel Q F3) v σ' F3 H2 _ (fun z => z) s3 rv p3 fun σ4 ρ4 r4 q4 s4 p4 => ?_
      refine q4 _ Q σ4 F3 H2 hrt ?_ ?_ ?_ s4 p4
      · rintro σ5 F5 H5 ρ5 r5 z ⟨st', rfl, rfl⟩ s5 p5
        exact ⟨st', F5, hF.trans (g3.ff.trans z), s5, p5⟩
      · rintro σ5 F5 H5 ρ5 r5 z ⟨st', rfl, rfl⟩ s5 p5
        exact ⟨st', F5, hF.trans (g3.ff.trans z), s5, p5⟩
      · rintro σ5 F5 H5 ρ5 r5 z ⟨st', rfl, rfl⟩ s5 p5
        have up : Same F F5 := g1.ff.trans (hF.trans (g3.ff.trans z))
        exact hd st' D Q σ5 F5 H5 hrt (fun σ2 F2 H2 ρ2 r2 z => hn σ2 F2 H2 ρ2 r2 (up.trans z)) (fun σ2 F2 H2 ρ2 r2 z => hc σ2 F2 H2 ρ2 r2 (up.trans z)) (fun σ2 F2 H2 ρ2 r2 z => hbk σ2 F2 H2 ρ2 r2 (up.trans z)) s5 p5
    · left
      have e : i = xs.length := by omega
      subst e
      refine ⟨w1 rfl, ?_⟩
      rw [List.drop_length] at p2
      have up : Same F F2 := g1.ff.trans hF
      exact hd st D Q σ' F2 H' hrt (fun σ2 F2 H2 ρ2 r2 z => hn σ2 F2 H2 ρ2 r2 (up.trans z)) (fun σ2 F2 H2 ρ2 r2 z => hc σ2 F2 H2 ρ2 r2 (up.trans z)) (fun σ2 F2 H2 ρ2 r2 z => hbk σ2 F2 H2 ρ2 r2 (up.trans z)) s2 p2
end
end Mir
namespace Mir
open PySem PySem.Spec PyProof.Rows L2

def oCons : Option Val → List Val → List Val
  | some y, ys => y :: ys
  | none, ys => ys
/-- item by item; none: left out -/
def collect (f : Val → Res (Option Val)) : List Val → Res (List Val)
  | [] => .ok []
  | x :: xs => nx (f x) >>= fun o => collect f xs >>= fun ys => .ok (oCons o ys)
def mapR (f : Val → Res Val) : List Val → Res (List Val) := collect fun x => f x >>= fun y => .ok (some y)
/-- an item's value where the tests let it -/
def keepIf (t : Res Bool) (y : Res Val) : Res (Option Val) := t >>= fun k => if k = true then y >>= fun v => .ok (some v) else .ok none
def asL (m : Res (List Val)) : Res Val := m >>= fun ys => .ok (.lst ys)
def relO (G : Glo) (F : Hp) (o : Option Val) (v : Option V) : Prop := match o, v with
  | some x, some v => Rep G F x v
  | none, none => True
  | _, _ => False
theorem collect_len {f : Val → Res (Option Val)} : ∀ {xs ys : List Val}, collect f xs = .ok ys → ys.length ≤ xs.length
  | [], ys, h => by cases h; exact Nat.le_refl _
  | x :: xs, ys, h => by
    unfold collect at h
    cases h1 : nx (f x) with
    | no => rw [h1] at h; cases h
    | err e => rw [h1] at h; cases h
    | ok o =>
      rw [h1] at h
      simp only [ok_bind] at h
      cases h2 : collect f xs with
      | no => rw [h2] at h; cases h
      | err e => rw [h2] at h; cases h
      | ok zs =>
        rw [h2] at h
        simp only [ok_bind] at h
        cases h
        have := collect_len h2
        cases o <;> simp [oCons] <;> omega
/-- the block's context: no error leaves it -/
abbrev Cxt.in_ (c : Cxt) : Cxt := { c with E := E0 }
theorem At.in_ {c : Cxt} {F H : Hp} {σ : L2.St} {ρ : Ros} (s : At c F H σ ρ) : At c.in_ F H σ ρ := ⟨s.sub, s.kept, s.dom, s.fresh, s.ff, s.vals, s.muts, s.pots, s.slfs, s.dist, s.pdist, s.len⟩
theorem wipe_keep {σ : L2.St} {j : Nat} : ∀ {vs : List Nat}, j ∉ vs → (wipe σ vs)[j]? = σ[j]?
  | [], _ => rfl
  | w :: ws, h => by
    unfold wipe
    rw [List.getElem?_set_ne (fun e => h (by rw [e]; exact List.mem_cons_self))]
    exact wipe_keep fun m => h (List.mem_cons_of_mem _ m)
theorem At.wipe {c : Cxt} {F H : Hp} {σ : L2.St} {ρ : Ros} {vs : List Nat} (s : At c F H σ ρ) (h : ∀ (j : Nat) (e : Ent), ρ[j]? = some (some e) → j ∉ vs) : At c F H (L2.wipe σ vs) ρ := by
  refine ⟨s.sub, s.kept, s.dom, s.fresh, s.ff, fun i x e => ?_, fun i x e => ?_, fun i x e => ?_, fun i k x e => ?_, fun i j xs ys a n e e' q => ?_, s.pdist, by rw [wipe_length]; exact s.len⟩
  · rw [wipe_keep (h _ _ e)]; exact s.vals i x e
  · rw [wipe_keep (h _ _ e)]; exact s.muts i x e
  · rw [wipe_keep (h _ _ e)]; exact s.pots i x e
  · rw [wipe_keep (h _ _ e)]; exact s.slfs i k x e
  · rw [wipe_keep (h _ _ e)] at q
    rw [wipe_keep (h _ _ e')]
    exact s.dist i j xs ys a n e e' q
/-- an item: the tests, then the value -/
def EL (c : Cxt) (tt : TT) (te : TE) (ρ : Ros) (r : Res (Option Val)) : Prop := ∀ (σ : L2.St) (F H : Hp) (K : Option V → Hp → Prop), At c F H σ ρ → PostX c.G c.E (relO c.G) F H K r →
  tt σ H fun b H3 => if b = true then te σ H3 (fun y H4 => K (some y) H4) else K none H3
section
variable {c : Cxt} {X : Cx} {tg it e elt : Expr} {te : TE} {tt : TT} {ρ ρi : Ros} {m : Res Val} {mb : Res Bool} {mi : Res (List Val)} {wi : TI} {g : TG} {ifs : List Expr} {scope : Scope} {own : List (Str × Nat)} {pos : Pos} {F H : Hp}
theorem el_all (h : ∀ σ F H Q, At c F H σ ρ → PostV c F H Q m → te σ H Q) : EL c tYes te ρ (m >>= fun y => .ok (some y)) := by
  intro σ F H K s p
  show (if true = true then te σ H (fun y H4 => K (some y) H4) else K none H)
  rw [if_pos rfl]
  refine h σ F H _ s ?_
  cases m with
  | ok x => exact fun v F1 H1 g r => p (some v) F1 H1 g r
  | err e => exact p
  | no => exact p
theorem el_if (h1 : ∀ σ F H Q, At c F H σ ρ → PostB c F H Q mb → tt σ H Q) (h : ∀ σ F H Q, At c F H σ ρ → PostV c F H Q m → te σ H Q) : EL c tt te ρ (keepIf mb m) := by
  intro σ F H K s p
  refine h1 σ F H _ s ?_
  unfold keepIf at p
  cases mb with
  | err e => exact p
  | no => exact p
  | ok k =>
    intro k' F1 H1 g r
    subst r
    have p1 : PostX c.G c.E (relO c.G) F1 H1 K (if k' = true then m >>= fun v => .ok (some v) else .ok none) := PostX.grow g p
    by_cases hk : k' = true
    · rw [if_pos hk] at p1 ⊢
      refine h σ F1 H1 _ (s.grow g) ?_
      cases m with
      | ok x => exact fun v F1 H1 g r => p1 (some v) F1 H1 g r
      | err e => exact p1
      | no => exact p1
    · rw [if_neg hk] at p1 ⊢
      exact p1.done g.fh trivial
theorem lc_ev (f : Val → Res (Option Val)) (hi : EI c X tg it wi ρ mi) (hw : Weak ρ ρi) (hwn : ∀ (j : Nat) (e : Ent), ρi[j]? = some (some e) → j ∉ own.map (·.2))
    (hb : ∀ x, GXs c.in_ g ρi x (f x) (own.map (·.2)) (fun ρ' r' => EL c.in_ tt te ρ' r')) :
    ∀ σ F H Q, At c F H σ ρ → PostV c F H Q (asL (mi >>= collect f)) → tLc wi g tt te (own.map (·.2)) σ H Q := by
  intro σ F H Q s p
  refine hi.ev σ F H _ s ?_
  have lim := hi.lim
  cases mi with
  | err e => exact p
  | no => exact p
  | ok xs =>
    have hl := lim xs rfl
    intro J F1 H1 g1 wk D hD
    have p1 : PostV c F1 H1 Q (asL (collect f xs)) := PostX.grow g1 p
    generalize hvs : own.map (·.2) = vs at hwn hb ⊢
    have s1 : At c F1 H1 (L2.wipe σ vs) ρi := ((s.grow g1).weak hw).wipe hwn
    cases hR : collect f xs with
    | no => rw [hR] at p1; exact p1.elim
    | err e =>
      exfalso
      have : ∀ ys : List Val, collect f ys ≠ .err e := by
        intro ys
        induction ys with
        | nil => intro z; cases z
        | cons y ys ih =>
          unfold collect
          cases f y with
          | ok o =>
            cases hc : collect f ys with
            | ok zs => intro z; cases z
            | no => intro z; cases z
            | err e2 => intro z; simp only [nx, ok_bind, err_bind] at z; cases z; exact ih hc
          | err e2 => intro z; cases z
          | no => intro z; cases z
      exact this xs hR
    | ok R =>
      rw [hR] at p1
      refine ⟨fun i m H => m = xs.length - i ∧ i ≤ xs.length ∧ ∃ F2 ws ys, Grow F1 H1 F2 H ∧ H D = some (.lst ws) ∧ F2 D = none ∧ RepL c.G F2 ys ws ∧ ws.length ≤ i ∧ collect f xs = (collect f (xs.drop i) >>= fun zs => .ok (ys ++ zs)), ⟨_, rfl, Nat.zero_le _, F1, [], [], ?_, upd_same, g1.fh.free hD, RepL.nil, Nat.le_refl _, ?_⟩, ?_⟩
      · exact ⟨Same.refl _, fun a o e => by rw [upd_ne (ne_of_none (g1.fh _ _ e) hD)]; exact g1.fh _ _ e, fun a o e => by rw [upd_ne (ne_of_none e hD)]; exact e, fun a o e => .inl e⟩
      · simp only [List.drop_zero, List.nil_append]
        rw [hR]; rfl
      rintro i m H2 ⟨rfl, hi, F2, ws, ys, g2, hDl, hFD, rl, hwl, eR⟩
      obtain ⟨w1, w2⟩ := wk i F2 H2 g2.ff g2.fh hi
      by_cases hlt : i < xs.length
      · right
        obtain ⟨hgo, hy⟩ := w2 xs[i] (List.getElem?_eq_getElem hlt)
        refine ⟨hgo, fun H5 => ∃ F5 ws' ys', Grow F1 H1 F5 H5 ∧ H5 D = some (.lst ws') ∧ F5 D = none ∧ RepL c.G F5 ys' ws' ∧ ws'.length ≤ i + 1 ∧ collect f xs = (collect f (xs.drop (i + 1)) >>= fun zs => .ok (ys' ++ zs)), fun H5 ⟨F5, ws', ys', a1, a2, a3, a4, a5, a6⟩ => ⟨_, by omega, rfl, hlt, F5, ws', ys', a1, a2, a3, a4, a5, a6⟩, fun v H3 y => ?_⟩
        obtain ⟨F3, g3, rv⟩ := hy v H3 y
        have g13 := g2.trans g3
        have s3 := (s1.grow g13).in_
        rw [List.drop_eq_getElem_cons hlt] at eR
        obtain ⟨o, ho⟩ : ∃ o, f xs[i] = .ok o := by
          rw [hR] at eR
          unfold collect at eR
          cases hf : f xs[i] with
          | ok o => exact ⟨o, rfl⟩
          | err e => rw [hf] at eR; cases eR
          | no => rw [hf] at eR; cases eR
        have hD3 : H3 D = some (.lst ws) := g3.hh _ _ hDl
        have hF3 : F3 D = none := by
          cases q : F3 D with
          | none => rfl
          | some u => exact (g3.fr D u q).elim (fun z => by rw [hFD] at z; cases z) fun z => by rw [hDl] at z; cases z
        refine hb xs[i] (fun r => r = .ok o) v (L2.wipe σ vs) F3 H3 _ (fun z => nomatch z) s3 rv ho fun σ4 ρ4 r4 q4 hw4 s4 e4 => ?_
        subst e4
        refine ⟨by rw [hw4]; exact wipe_wipe σ vs vs fun _ h => h, ?_⟩
        refine q4 σ4 F3 H3 (fun ov H4 => match ov with
          | some y => ∃ acc, H4 D = some (.lst acc) ∧ acc.length < sizeLine ∧ ∃ F5 ws' ys', Grow F1 H1 F5 (upd H4 D (.lst (acc ++ [y]))) ∧ (upd H4 D (.lst (acc ++ [y]))) D = some (.lst ws') ∧ F5 D = none ∧ RepL c.G F5 ys' ws' ∧ ws'.length ≤ i + 1 ∧ collect f xs = (collect f (xs.drop (i + 1)) >>= fun zs => .ok (ys' ++ zs))
          | none => ∃ F5 ws' ys', Grow F1 H1 F5 H4 ∧ H4 D = some (.lst ws') ∧ F5 D = none ∧ RepL c.G F5 ys' ws' ∧ ws'.length ≤ i + 1 ∧ collect f xs = (collect f (xs.drop (i + 1)) >>= fun zs => .ok (ys' ++ zs))) s4 ?_
        intro ov F4 H4 g4 ro
        have hF4 : F4 D = none := by
          cases q : F4 D with
          | none => rfl
          | some u => exact (g4.fr D u q).elim (fun z => by rw [hF3] at z; cases z) fun z => by rw [hD3] at z; cases z
        have g14 := g13.trans g4
        have step : ∀ z : Res (List Val), (collect f (xs[i] :: xs.drop (i + 1))) = (collect f (xs.drop (i + 1)) >>= fun ys => .ok (oCons o ys)) := fun _ => by
          show (nx (f xs[i]) >>= fun o => collect f (xs.drop (i + 1)) >>= fun ys => .ok (oCons o ys)) = _
          rw [ho]; rfl
        rw [step .no, bind_assoc'] at eR
        cases o with
        | none =>
          cases ov with
          | some y => exact ro.elim
          | none => exact ⟨F4, ws, ys, g14, g4.hh _ _ hD3, hF4, rl.mono (g3.ff.trans g4.ff), by omega, eR⟩
        | some x =>
          cases ov with
          | none => exact ro.elim
          | some y =>
            refine ⟨ws, g4.hh _ _ hD3, Nat.lt_of_le_of_lt hwl (Nat.lt_of_lt_of_le hlt (lim_size hl)), F4, ws ++ [y], ys ++ [x], ⟨g14.ff, fun a o e => ?_, fun a o e => ?_, g14.fr⟩, upd_same, hF4, (rl.mono (g3.ff.trans g4.ff)).append (RepL.cons ro RepL.nil), by rw [List.length_append]; simp; omega, ?_⟩
            · rw [upd_ne (ne_of_none e hF4)]; exact g4.fh _ _ e
            · rw [upd_ne (ne_of_none e hD)]; exact g14.hh _ _ e
            · rw [eR]
              simp [oCons]
      · left
        have e : i = xs.length := by omega
        subst e
        refine ⟨w1 rfl, ?_⟩
        rw [List.drop_length] at eR
        have eR' : collect f xs = .ok ys := by rw [eR]; simp [collect]
        rw [hR] at eR'
        cases eR'
        have hws : ws.length ≤ LIM := Nat.le_trans hwl hl
        refine p1 (.ref D) (upd F2 D (.lst ws)) H2 ⟨fun a o e => ?_, fun a o e => ?_, g2.hh, fun a o e => ?_⟩ ?_
        · rw [upd_ne (ne_of_none (g2.ff _ _ e) hFD)]; exact g2.ff _ _ e
        · by_cases z : a = D
          · subst z; rw [upd_same] at e; cases e; exact hDl
          · rw [upd_ne z] at e; exact g2.fh _ _ e
        · by_cases z : a = D
          · subst z; exact .inr hD
          · rw [upd_ne z] at e; exact g2.fr _ _ e
        · simp only [Rep]
          exact ⟨D, ws, rfl, .inl (.inl upd_same), hws, rl.mono fun a o e => by rw [upd_ne (ne_of_none e hFD)]; exact e⟩
/-- [elt for tg in it if ..] -/
theorem ex_lc (f : Val → Res (Option Val)) (hc : X.calm = true) (hN : X.N.Nodup) (ok : BlkOk X.N X.env.scope scope own) (hi : EI c X tg it wi ρ mi) (hw : Weak ρ ρi) (hwn : ∀ (j : Nat) (e : Ent), ρi[j]? = some (some e) → j ∉ own.map (·.2))
    (hg : ∀ (s : Shared) (H : Hp) (C : Addr) (cl : List (Str × Addr)) (fp : List Addr), PG (X.blk s H scope (compEnvC scope cl C X.env) fp) tg g) (ht : ∀ (s : Shared) (H : Hp) (C : Addr) (cl : List (Str × Addr)) (fp : List Addr), PTs (X.blk s H scope (compEnvC scope cl C X.env) fp) ifs tt)
    (he : ∀ (s : Shared) (H : Hp) (C : Addr) (cl : List (Str × Addr)) (fp : List Addr), PE (X.blk s H scope (compEnvC scope cl C X.env) fp) elt te)
    (hb : ∀ x, GXs c.in_ g ρi x (f x) (own.map (·.2)) (fun ρ' r' => EL c.in_ tt te ρ' r')) (hs : ∀ x, foldedSetIterable it X.env x = pure x := by intro _; rfl) :
    EX c X (.ListComp elt [⟨tg, it, ifs, 0⟩] scope pos) (tLc wi g tt te (own.map (·.2))) ρ (asL (mi >>= collect f)) := ⟨pe_lc hc hN hi.pi ok hg ht he hs, lc_ev f hi hw hwn hb⟩
end
end Mir
namespace Mir
open PySem PySem.Spec PyProof.Rows L2

theorem back_of {X : Cx} {pins : List (Addr × Obj)} {σ : L2.St} {Q : VK} {v : Value} {s' : Shared} (h : EP X pins σ Q v s') : PySem.W.CmpBack (EP X pins σ Q) v s' := by
  obtain ⟨x, H', I, r, q⟩ := _root_.id h
  cases v <;> first | exact h | (exfalso; cases x <;> simp [L2.RelV] at r)
/-- what a class's own operator must have -/
structure OwnOp (K : PySem.W.Frag) (C : Addr) (nm : Str) (f : Addr) : Prop where
  first : PySem.W.selfFirst K C = true
  at_ : PySem.W.findIn K (.ref C) nm = some (some (.ref f))
  fn : PySem.W.isFn K (.ref f) = true
/-- .. with an int beside it -/
structure OwnInt (K : PySem.W.Frag) (C : Addr) (nm rn : Str) : Prop where
  own : ∃ rc, PySem.W.findIn K (.ref C) rn = some rc ∧ (rc = none ∨ ∃ g : Addr, rc = some (.ref g))
  fo : ∃ fo, PySem.W.findIn K (.type "int") nm = some fo
  ro : ∃ ro, PySem.W.findIn K (.type "int") rn = some ro
  sub : PySem.W.subIn K (.type "int") (.ref C) = some false
  sub2 : PySem.W.subIn K (.ref C) (.type "int") = some false
/-- x op y, x of the class at C -/
def rOwn (C : Addr) (sp : Sp) (E : XK) : R2 := fun x y H Q => ∃ a dx fs, x = .ref a ∧ H a = some (.ins C dx fs) ∧ ((∃ b dy gs, y = .ref b ∧ H b = some (.ins C dy gs)) ∨ ∃ i, y = .int i) ∧ sp [x, y] H Q E
/-- i op y, i an int -/
def rROwn (C : Addr) (sp : Sp) (E : XK) : R2 := fun x y H Q => ∃ i b dy gs, x = .int i ∧ y = .ref b ∧ H b = some (.ins C dy gs) ∧ sp [y, x] H Q E
section
variable {X : Cx} {CX : CXT} {k : Nat} {C f : Addr} {fd : FuncData} {ps : List Str} {sp : Sp} {E : XK}
theorem op_own {op : Operator} {nm rn : Str} (h1 : PySem.dunder op.info.2 = nm) (h2 : dunderR op.info.2 = rn) (o : OwnOp X.K C nm f) (oi : OwnInt X.K C nm rn) (F : FnOk X.prog X.w X.K X.mg X.base CX k f fd ps sp) (hr : Room k X.A) (hb : Binds X.K fd ps []) (hx : Passes CX X E) :
    OpR X (binaryOp op) (rOwn C sp E) := by
  intro pins s σ H x y v u Q I rx ry h
  obtain ⟨a, dx, fs, rfl, ha, hy, hs⟩ := h
  subst h1 h2
  obtain rfl : v = Value.ref a := rx
  obtain ⟨mA, O, _⟩ := ins_get I.hok ha
  obtain ⟨od, J, _⟩ := O.look
  obtain ⟨m, hF⟩ := I.fr
  rcases hy with ⟨b, dy, gs, rfl, hb'⟩ | ⟨i, rfl⟩
  · obtain rfl : u = Value.ref b := ry
    obtain ⟨mB, O', _⟩ := ins_get I.hok hb'
    obtain ⟨od', J', _⟩ := O'.look
    refine PySem.W.binop_K hF I.ok.mod.kin J J'.type o.first o.at_ o.fn ?_
    exact thn (run_fn (us := [.ref a, .ref b]) (vs := [.ref a, .ref b]) F hr hb .nil hx I (.cons rfl (.cons rfl .nil)) hs) fun _ _ q => back_of q
  · obtain ⟨t, rfl⟩ := ry
    obtain ⟨rc, e1, e2⟩ := oi.own
    obtain ⟨fo, e3⟩ := oi.fo
    obtain ⟨ro, e4⟩ := oi.ro
    refine PySem.W.ksp_binT hF I.ok.mod.kin J rfl o.first o.at_ o.fn e1 e2 e3 e4 oi.sub ?_
    exact thn (run_fn (us := [.ref a, .int i t]) (vs := [.ref a, .int i]) F hr hb .nil hx I (.cons rfl (.cons ⟨t, rfl⟩ .nil)) hs) fun _ _ q => back_of q
end
theorem int_add_inst (i : Int) (t : Tok) (b C dx : Addr) : Meets (Builtin.«int.__add__» ⟨[.int i t, .ref b], []⟩) (fun _ R s => s.heap.get? b = some (PySem.W.instObj C dx) ∧ R (.ok (.ret Value.notImplemented)) s) :=
  .of_wp fun prog w A R s h => by obtain ⟨hp, g, d, tk, os⟩ := s; obtain ⟨hl, h⟩ := h; wp_walk; exact ⟨_, rfl, h⟩
theorem int_sub_inst (i : Int) (t : Tok) (b C dx : Addr) : Meets (Builtin.«int.__sub__» ⟨[.int i t, .ref b], []⟩) (fun _ R s => s.heap.get? b = some (PySem.W.instObj C dx) ∧ R (.ok (.ret Value.notImplemented)) s) :=
  .of_wp fun prog w A R s h => by obtain ⟨hp, g, d, tk, os⟩ := s; obtain ⟨hl, h⟩ := h; wp_walk; exact ⟨_, rfl, h⟩
theorem int_mul_inst (i : Int) (t : Tok) (b C dx : Addr) : Meets (Builtin.«int.__mul__» ⟨[.int i t, .ref b], []⟩) (fun _ R s => s.heap.get? b = some (PySem.W.instObj C dx) ∧ R (.ok (.ret Value.notImplemented)) s) :=
  .of_wp fun prog w A R s h => by obtain ⟨hp, g, d, tk, os⟩ := s; obtain ⟨hl, h⟩ := h; wp_walk; exact ⟨_, rfl, h⟩

/-- an int on the left: its own operator declines -/
theorem binR_K {prog : Program} {w : World} {A : Around} {E : Value → Shared → Prop} {s : Shared} {K : PySem.W.Frag} {x C L f f0 : Addr} {h₀ : Heap} {m : Str → Option Value} {ox : Obj} {od : Option Obj} {op : Operator} {i : Int} {t : Tok} {id : String} {Q : Value → Shared → Prop}
    (Fh : Fr h₀ L s.heap m) (X₀ : K.In h₀) (I : PySem.W.InstAt s.heap x ox C od) (hc : PySem.W.selfFirst K C = true) (h0 : PySem.W.findIn K (.ref C) (dunder op.info.2) = some (some (.ref f0))) (hs : PySem.W.findIn K (.ref C) (dunderR op.info.2) = some (some (.ref f))) (hf : PySem.W.isFn K (.ref f) = true)
    (hfi : fillsNumberSlot (.type "int") op.info.2 = pure true) (hsl : Slot "int" (dunder op.info.2) id) (hsub : PySem.W.subIn K (.ref C) (.type "int") = some false)
    (hd : wpAny (model prog w) A (call (.builtin id) [.int i t, .ref x]) (fun v s' => v = .notImplemented ∧ s' = s) E s)
    (h : wpAny (model prog w) A (call (.ref f) [.ref x, .int i t]) (PySem.W.CmpBack Q) E s) : wpAny (model prog w) A (binaryOp op (.int i t) (.ref x)) Q E s := by
  have X := X₀.keeps Fh.keep
  obtain ⟨cd, rest, hcd, hm⟩ := PySem.W.ksp_first hc
  rcases hi : op.info with ⟨sym, nm'⟩
  rw [hi] at h0 hs hfi hsl
  dsimp only at h0 hs hfi hsl
  have one := PySem.W.ksp_try X I hs hf h
  have dec : wpAny (model prog w) A (tryMethod (.int i t) (dunder nm') (.ref x)) (fun r s' => r = none ∧ s' = s) E s :=
    wpAny_tryMethod_declines (typeIs_int s i t) hsl (wpAny_mono hd (fun v s' q => ⟨q.1, rfl, q.2⟩) fun _ _ e => e)
  obtain ⟨hh, g, d, tt, os⟩ := s
  have L1 : PySem.W.Looks (model prog w) hh (typeOf (.int i t)) (.type "int") := PySem.W.Looks.of_pure rfl
  have L2 : PySem.W.Looks (model prog w) hh (typeOf (.ref x)) (.ref C) := I.type
  have L3 : PySem.W.Looks (model prog w) hh (fillsNumberSlot (.type "int") nm') true := PySem.W.Looks.of_pure hfi
  have L4 : PySem.W.Looks (model prog w) hh (fillsNumberSlot (.ref C) nm') true := PySem.W.fills_K X hcd hm h0
  have L5 : PySem.W.Looks (model prog w) hh (isSubtype (.ref C) (.type "int")) false := PySem.W.looks_subIn X hsub
  have L6 : PySem.W.Looks (model prog w) hh (numberSlotInPython (.type "int") nm') false := PySem.W.Looks.of_pure rfl
  have hne : (Value.type "int" == Value.ref C) = false := Bool.eq_false_iff.mpr fun q => by cases beq_iff_eq.mp q
  simp only [binaryOp, hi]
  refine wpAny_holding (wpAny_bind ?_)
  unfold binaryOp1
  refine wpAny_bind (L1.at (wpAny_bind (L2.at (wpAny_bind (L3.at ?_)))))
  simp only [hne, Bool.false_eq_true, if_false]
  refine wpAny_bind (L4.at ?_)
  simp only [Bool.and_self, if_true]
  refine wpAny_bind (L5.at ?_)
  simp only [Bool.false_eq_true, if_false, Bool.not_false, Bool.and_self, if_true, pure_bind]
  refine wpAny_bind (L6.at ?_)
  simp only [Bool.false_eq_true, if_false, pure_bind]
  refine wpAny_bind (wpAny_mono dec (fun r s' hr' => ?_) fun _ _ e => e)
  obtain ⟨rfl, rfl⟩ := hr'
  simp only [pure_bind]
  refine wpAny_bind (wpAny_mono one (fun r s' hr' => ?_) fun _ _ e => e)
  obtain ⟨v, rfl, hq⟩ := hr'
  refine wpAny_bind (wpAny_rule ?_)
  exact wpAny_pure (wpAny_pure hq)
section
variable {X : Cx} {CX : CXT} {k : Nat} {C f f0 : Addr} {fd : FuncData} {ps : List Str} {sp : Sp} {E : XK}
theorem op_rown {op : Operator} {nm rn : Str} {id : String} (h1 : dunder op.info.2 = nm) (h2 : dunderR op.info.2 = rn) (o : OwnOp X.K C nm f0) (o2 : OwnOp X.K C rn f) (oi : OwnInt X.K C nm rn) (F : FnOk X.prog X.w X.K X.mg X.base CX k f fd ps sp) (hr : Room k X.A) (hb : Binds X.K fd ps []) (hx : Passes CX X E)
    (hfi : fillsNumberSlot (.type "int") op.info.2 = pure true) (hsl : Slot "int" (dunder op.info.2) id)
    (hd : ∀ (A : Around) (E : Value → Shared → Prop) (s : Shared) (i : Int) (t : Tok) (b C dx : Addr), s.heap.get? b = some (PySem.W.instObj C dx) → wpAny (model X.prog X.w) A (call (.builtin id) [.int i t, .ref b]) (fun v s' => v = .notImplemented ∧ s' = s) E s) :
    OpR X (binaryOp op) (rROwn C sp E) := by
  intro pins s σ H x y v u Q I rx ry h
  obtain ⟨i, b, dy, gs, rfl, rfl, hb', hs⟩ := h
  subst h1 h2
  obtain ⟨t, rfl⟩ := rx
  obtain rfl : u = Value.ref b := ry
  obtain ⟨mA, O, _⟩ := ins_get I.hok hb'
  have hob := O.obj
  obtain ⟨od, J, _⟩ := O.look
  obtain ⟨m, hF⟩ := I.fr
  refine binR_K hF I.ok.mod.kin J o.first o.at_ o2.at_ o2.fn hfi hsl oi.sub2 (hd _ _ _ _ _ _ _ _ hob) ?_
  exact thn (run_fn (us := [.ref b, .int i t]) (vs := [.ref b, .int i]) F hr hb .nil hx I (.cons rfl (.cons ⟨t, rfl⟩ .nil)) hs) fun _ _ q => back_of q
end
theorem dec_add {prog : Program} {w : World} (A : Around) (E : Value → Shared → Prop) (s : Shared) (i : Int) (t : Tok) (b C dx : Addr) (h : s.heap.get? b = some (PySem.W.instObj C dx)) : wpAny (model prog w) A (call (.builtin "int.__add__") [.int i t, .ref b]) (fun v s' => v = .notImplemented ∧ s' = s) E s :=
  call_meets F.slot_int_add (typeIs_int s i t) F.entry_int_add (F.args_int_add_2 _ _) (int_add_inst i t b C dx) ⟨h, rfl, rfl⟩
theorem dec_sub {prog : Program} {w : World} (A : Around) (E : Value → Shared → Prop) (s : Shared) (i : Int) (t : Tok) (b C dx : Addr) (h : s.heap.get? b = some (PySem.W.instObj C dx)) : wpAny (model prog w) A (call (.builtin "int.__sub__") [.int i t, .ref b]) (fun v s' => v = .notImplemented ∧ s' = s) E s :=
  call_meets F.slot_int_sub (typeIs_int s i t) F.entry_int_sub (F.args_int_sub_2 _ _) (int_sub_inst i t b C dx) ⟨h, rfl, rfl⟩
theorem dec_mul {prog : Program} {w : World} (A : Around) (E : Value → Shared → Prop) (s : Shared) (i : Int) (t : Tok) (b C dx : Addr) (h : s.heap.get? b = some (PySem.W.instObj C dx)) : wpAny (model prog w) A (call (.builtin "int.__mul__") [.int i t, .ref b]) (fun v s' => v = .notImplemented ∧ s' = s) E s :=
  call_meets F.slot_int_mul (typeIs_int s i t) F.entry_int_mul (F.args_int_mul_2 _ _) (int_mul_inst i t b C dx) ⟨h, rfl, rfl⟩
/-- -x -/
def rNegOwn (C : Addr) (sp : Sp) (E : XK) : V → Hp → VK → Prop := fun x H Q => ∃ a dx fs, x = .ref a ∧ H a = some (.ins C dx fs) ∧ sp [x] H Q E
theorem un_own {X : Cx} {CX : CXT} {k : Nat} {C f : Addr} {fd : FuncData} {ps : List Str} {sp : Sp} {E : XK} (hs : PySem.W.findIn X.K (.ref C) "__neg__" = some (some (.ref f))) (hf : PySem.W.isFn X.K (.ref f) = true) (F : FnOk X.prog X.w X.K X.mg X.base CX k f fd ps sp) (hr : Room k X.A) (hb : Binds X.K fd ps []) (hx : Passes CX X E) :
    UnR X (unaryOp .USub) (rNegOwn C sp E) := by
  intro pins s σ H x v Q I rx h
  obtain ⟨a, dx, fs, rfl, ha, hsp⟩ := h
  obtain rfl : v = Value.ref a := rx
  obtain ⟨mA, O, _⟩ := ins_get I.hok ha
  obtain ⟨od, J, _⟩ := O.look
  obtain ⟨m, hF⟩ := I.fr
  exact PySem.W.ksp_neg hF I.ok.mod.kin J hs hf (run_fn (us := [.ref a]) (vs := [.ref a]) F hr hb .nil hx I (.cons rfl .nil) hsp)
end Mir
namespace Mir
open PySem PySem.Spec PyProof.Rows L2

/-- statements: their rules and what they come to -/
structure SB {α : Type} (c : Cxt) (X : Cx) (rel : Hp → Hp → V → α → Prop) (sts : List Stmt) (t : TS) (ρ : Ros) (r : Res α) (N C B : Exit α) : Prop where
  ps : PSs X sts t
  bx : BX c rel t ρ r N C B
section
variable {α : Type} {c : Cxt} {X : Cx} {rel : Hp → Hp → V → α → Prop} {A Bs rest sts : List Stmt} {t u tr : TS} {ρ ρ' : Ros} {r r1 r2 : Res α} {N C B : Exit α} {te : TE} {tt : TT} {e cnd tg it : Expr} {m : Res Val} {mb : Res Bool} {mi : Res (List Val)} {st : Stmt} {pos : Pos} {wi : TI} {g : TG}
theorem sb_end {N' : Exit α} (w : Weak ρ ρ') (h : N' ρ' r) : SB c X rel [] tNext ρ r N' C B := ⟨pss_nil, bx_end w h⟩
theorem sb_no (h : PSs X sts t) : SB c X rel sts t ρ (.no : Res α) N C B := ⟨h, bx_no⟩
theorem sb_raise : SB c X rel [.Raise (some e) none pos] tNever ρ (.no : Res α) N C B := ⟨pss_one ps_never, bx_no⟩
theorem sb_cont (w : Weak ρ ρ') (h : C ρ' r) : SB c X rel [.Continue pos] tCont ρ r N C B := ⟨pss_one ps_continue, bx_cont w h⟩
theorem sb_break (w : Weak ρ ρ') (h : B ρ' r) : SB c X rel [.Break pos] tBreak ρ r N C B := ⟨pss_one ps_break, bx_break w h⟩
/-- y = e -/
theorem sb_set {i : Nat} {f : Val → Res α} (hp : PS X st (tAsg te (gName i))) (he : ∀ σ F H Q, At c F H σ ρ → PostV c F H Q m → te σ H Q) (hi : i < c.n) (h : ∀ x, SB c X rel rest tr (ρ.set i (some (.val x))) (f x) N C B) :
    SB c X rel (st :: rest) (tSeq (tAsg te (gName i)) tr) ρ (m >>= f) N C B := by
  refine ⟨pss_cons hp (h .non).ps, fun D Q σ F H hrt hn hc hb s p => ?_⟩
  refine he σ F H _ s (fin_post s p fun x v F1 H1 _ g s1 r1 p1 => (h x).bx D Q _ F1 H1 hrt (fun σ2 F2 H2 ρ2 r2 z => hn σ2 F2 H2 ρ2 r2 (g.ff.trans z)) (fun σ2 F2 H2 ρ2 r2 z => hc σ2 F2 H2 ρ2 r2 (g.ff.trans z)) (fun σ2 F2 H2 ρ2 r2 z => hb σ2 F2 H2 ρ2 r2 (g.ff.trans z)) (s1.store hi r1) p1)
/-- target = e, the target of any form -/
theorem sb_asg {f : Val → Res α} (hp : PS X st (tAsg te g)) (he : ∀ σ F H Q, At c F H σ ρ → PostV c F H Q m → te σ H Q) (hps : PSs X rest tr)
    (h : ∀ x, GX c g ρ x (f x) (fun ρ' r' => BX c rel tr ρ' r' N C B)) : SB c X rel (st :: rest) (tSeq (tAsg te g) tr) ρ (m >>= f) N C B := by
  refine ⟨pss_cons hp hps, fun D Q σ F H hrt hn hc hb s p => ?_⟩
  refine he σ F H _ s (fin_post s p fun x v F1 H1 _ gg s1 r1 p1 => ?_)
  refine h x (Fin c rel Q F1) v σ F1 H1 _ (fun z => z) s1 r1 p1 fun σ2 ρ2 r2 q s2 p2 => ?_
  exact q D Q σ2 F1 H1 hrt (fun σ2 F2 H2 ρ2 r2 z => hn σ2 F2 H2 ρ2 r2 (gg.ff.trans z)) (fun σ2 F2 H2 ρ2 r2 z => hc σ2 F2 H2 ρ2 r2 (gg.ff.trans z)) (fun σ2 F2 H2 ρ2 r2 z => hb σ2 F2 H2 ρ2 r2 (gg.ff.trans z)) s2 p2
theorem sb_expr {f : Val → Res α} (he : EX c X e te ρ m) (h : ∀ x, SB c X rel rest tr ρ (f x) N C B) (hs : swapsWith e none pos.line X.env = pure false := by rfl) : SB c X rel (.Expr e pos :: rest) (tSeq (tDrop te) tr) ρ (m >>= f) N C B := by
  refine ⟨pss_cons (ps_expr he.pe hs) (h .non).ps, fun D Q σ F H hrt hn hc hb s p => ?_⟩
  exact he.ev σ F H _ s (fin_post s p fun x v F1 H1 _ g s1 r1 p1 => (h x).bx D Q _ F1 H1 hrt (fun σ2 F2 H2 ρ2 r2 z => hn σ2 F2 H2 ρ2 r2 (g.ff.trans z)) (fun σ2 F2 H2 ρ2 r2 z => hc σ2 F2 H2 ρ2 r2 (g.ff.trans z)) (fun σ2 F2 H2 ρ2 r2 z => hb σ2 F2 H2 ρ2 r2 (g.ff.trans z)) s1 p1)
/-- if c: A (which leaves); rest -/
theorem sb_guard (he : ET c X cnd tt ρ mb) (hA : SB c X rel A t ρ r1 X0 C B) (hr : SB c X rel rest tr ρ r2 N C B) : SB c X rel (.If cnd A [] pos :: rest) (tSeq (tIfS tt t tNext) tr) ρ (mb >>= fun k => if k = true then r1 else r2) N C B :=
  ⟨pss_cons (ps_if he.pt hA.ps pss_nil) hr.ps, bx_seq (N' := fun ρ' r' => ρ' = ρ ∧ r' = r2) (bx_if he (fun D Q σ F H hrt hn hc hb s p => hA.bx D Q σ F H hrt (fun _ _ _ _ _ _ z => z.elim) hc hb s p) (bx_end (Weak.refl _) ⟨rfl, rfl⟩)) (by rintro _ _ ⟨rfl, rfl⟩; exact hr.bx)⟩
/-- if c: A else: B, nothing behind -/
theorem sb_ifLast (he : ET c X cnd tt ρ mb) (hA : SB c X rel A t ρ r1 N C B) (hB : SB c X rel Bs u ρ r2 N C B) : SB c X rel [.If cnd A Bs pos] (tIfS tt t u) ρ (mb >>= fun k => if k = true then r1 else r2) N C B :=
  ⟨pss_one (ps_if he.pt hA.ps hB.ps), bx_if he hA.bx hB.bx⟩
/-- if c: A else: B, and what follows both, by the names' values there -/
theorem sb_ifJ {S : Type} (j : S → Res α) (ρj : S → Ros) (s0 : S) (he : ET c X cnd tt ρ mb) (hA : SB c X rel A t ρ r1 (fun ρ' r' => ∃ s, ρ' = ρj s ∧ r' = j s) C B) (hB : SB c X rel Bs u ρ r2 (fun ρ' r' => ∃ s, ρ' = ρj s ∧ r' = j s) C B)
    (hr : ∀ s, SB c X rel rest tr (ρj s) (j s) N C B) : SB c X rel (.If cnd A Bs pos :: rest) (tSeq (tIfS tt t u) tr) ρ (mb >>= fun k => if k = true then r1 else r2) N C B :=
  ⟨pss_cons (ps_if he.pt hA.ps hB.ps) (hr s0).ps, bx_seq (bx_if he hA.bx hB.bx) (by rintro _ _ ⟨s, rfl, rfl⟩; exact (hr s).bx)⟩
/-- for -/
theorem sb_for {S : Type} {body : List Stmt} {tb : TS} (loop : List Val → S → Res α) (ρh : S → Ros) (s0 : S) (hi : EI c X tg it wi ρ mi) (hw : Weak ρ (ρh s0)) (hp : PassesOwn (model X.prog X.w) X.A X.env X.xe) (hcalm : X.calm = true) (hg : PG X tg g) (hbps : PSs X body tb)
    (hb : ∀ x xs s, GX c g (ρh s) x (loop (x :: xs) s) (fun ρ' r' => BX c rel tb ρ' r' (fun ρ2 r2 => ∃ s', ρ2 = ρh s' ∧ r2 = loop xs s') (fun ρ2 r2 => ∃ s', ρ2 = ρh s' ∧ r2 = loop xs s') (fun ρ2 r2 => ∃ s', ρ2 = ρh s' ∧ r2 = loop [] s')))
    (hd : ∀ s, SB c X rel rest tr (ρh s) (loop [] s) N C B) (hs : ∀ x, foldedSetIterable it X.env x = pure x := by intro _; rfl) :
    SB c X rel (.For tg it body [] pos :: rest) (tSeq (tFor wi g tb) tr) ρ (mi >>= fun xs => loop xs s0) N C B :=
  ⟨pss_cons (ps_for hp hcalm hi.pi hg hbps hs) (hd s0).ps, bx_for loop ρh s0 hi hw hb fun s => (hd s).bx⟩
end
section
variable {c : Cxt} {X : Cx} {rest sts : List Stmt} {t u tr : TS} {ρ ρ' : Ros} {N C B : Exit Val} {te : TE} {e : Expr} {m : Res Val} {pos : Pos}
theorem sb_ret (he : EX c X e te ρ m) : SB c X (relV c.G) [.Return (some e) pos] (tRet te) ρ m N C B := ⟨pss_one (ps_ret he.pe), bx_ret he⟩
theorem sb_retN : SB c X (relV c.G) [.Return none pos] tRetN ρ (.ok .non) N C B := ⟨pss_one ps_retN, bx_retN⟩
end
/-- THE RULE for a def without effects, bundled -/
theorem fnS {P : Program} {w : World} {K : PySem.W.Frag} {mg : Str → Option Value} {base : Heap} {G : Glo} {x qual : Str} {st : Stmt} {f : Addr} {fd : FuncData} {N ps : List Str} {k : Nat} {dvs : List V} {mm : List Val → Res Val} (Fd : FnD K x qual st dvs f fd) (S : FnScope N ps (defScope st)) (d : List Val) (hd : d.length = ps.length)
    (hbody : ∀ (cdv : Value) (A : Around) (outer : List PySem.Env) (s : Shared) (H : Hp) (E : XK), Bd P w k E (cxOf (L2.CX P w) P w K mg base N qual (defScope st) f cdv A outer s H E) →
      ∃ t, ∀ (F0 : Hp) (xs : List Val), xs.length = ps.length → SB ⟨G, E, H, F0, none, N.length⟩ (cxOf (L2.CX P w) P w K mg base N qual (defScope st) f cdv A outer s H E) (relV G) (defBody st) t (rho N.length xs) (mm xs) (fun _ r => r = .ok .non) X0 X0) :
    FnOk P w K mg base (L2.CX P w) (k + 1) f fd ps (spM G ps.length mm) :=
  fnM Fd S rfl fun cdv A outer s H E B => let ⟨t, h⟩ := hbody cdv A outer s H E B; ⟨t, (h (fun _ => none) d hd).ps, fun F0 xs hx => (h F0 xs hx).bx⟩
end Mir
namespace Mir
open PySem PySem.Spec PyProof.Rows L2

/-! ### ints -/
def iadd : Val → Val → Res Val
  | .int a, .int b => .ok (.int (a + b))
  | _, _ => .no
def isub : Val → Val → Res Val
  | .int a, .int b => .ok (.int (a - b))
  | _, _ => .no
def mulZ (a b : Int) : Res Val := if a.natAbs.log2 + b.natAbs.log2 < 1000000 then .ok (.int (a * b)) else .no
def imul : Val → Val → Res Val
  | .int a, .int b => mulZ a b
  | _, _ => .no
def fdivZ (a b : Int) : Res Val := if b ≠ 0 ∧ b.natAbs.log2 < 9000 then .ok (.int (a.fdiv b)) else .no
def ifdiv : Val → Val → Res Val
  | .int a, .int b => fdivZ a b
  | _, _ => .no
def fmodZ (a b : Int) : Res Val := if b ≠ 0 then .ok (.int (a.fmod b)) else .no
def imod : Val → Val → Res Val
  | .int a, .int b => fmodZ a b
  | _, _ => .no
def powZ (a b : Int) : Res Val := if 0 ≤ b ∧ b ≤ 1000000 ∧ a.natAbs < 2 ^ 64 then .ok (.int (a ^ b.toNat)) else .no
def ipow : Val → Val → Res Val
  | .int a, .int b => powZ a b
  | _, _ => .no
def ineg : Val → Res Val
  | .int a => .ok (.int (-a))
  | _ => .no
def ilt : Val → Val → Res Val
  | .int a, .int b => .ok (.bl (decide (a < b)))
  | _, _ => .no
def ile : Val → Val → Res Val
  | .int a, .int b => .ok (.bl (decide (a ≤ b)))
  | _, _ => .no
def igt : Val → Val → Res Val
  | .int a, .int b => .ok (.bl (decide (b < a)))
  | _, _ => .no
def ige : Val → Val → Res Val
  | .int a, .int b => .ok (.bl (decide (b ≤ a)))
  | _, _ => .no
/-- == of flat values -/
def seq : Val → Val → Res Val
  | .int a, .int b => .ok (.bl (decide (a = b)))
  | .bl a, .bl b => .ok (.bl (decide (a = b)))
  | .str a, .str b => .ok (.bl (decide (a = b)))
  | _, _ => .no
def sne : Val → Val → Res Val
  | .int a, .int b => .ok (.bl (!decide (a = b)))
  | .bl a, .bl b => .ok (.bl (!decide (a = b)))
  | .str a, .str b => .ok (.bl (!decide (a = b)))
  | _, _ => .no
def isNon : Val → Bool
  | .non => true
  | _ => false
section
variable {c : Cxt} {X : Cx}
theorem op_fdivG : OpR X (binaryOp .FloorDiv) (rI (fun _ j => j ≠ 0 ∧ j.natAbs.log2 < 9000) fun i j => .int (i.fdiv j)) := opI fun _ _ _ _ _ _ _ hc q => floordiv_int hc.1 q (.inl (PyProof.noPylong_of_log2 hc.2))
theorem ov0 {f : Val → Val → Res Val} {g : Int → Int → V} {gv : Int → Int → Val} (hf : ∀ a b, f (.int a) (.int b) = .ok (gv a b)) (hr : ∀ F a b, Rep c.G F (gv a b) (g a b)) (hn : ∀ x y r, f x y = r → r ≠ .no → (∃ a b, x = .int a ∧ y = .int b)) : OpV c (rI0 g) f := by
  intro x y v w F H Q hs rx ry p
  cases h : f x y with
  | no => rw [h] at p; exact p.elim
  | _ =>
    obtain ⟨a, b, rfl, rfl⟩ := hn x y _ h (fun z => nomatch z)
    rw [hf] at p
    exact ⟨a, b, rx, ry, p.done hs (hr F a b)⟩
theorem ovC {f : Val → Val → Res Val} {C : Int → Int → Prop} {g : Int → Int → Int} (hf : ∀ a b r, f (.int a) (.int b) = r → r ≠ .no → r = .ok (.int (g a b)) ∧ C a b) (hn : ∀ x y r, f x y = r → r ≠ .no → (∃ a b, x = .int a ∧ y = .int b)) : OpV c (rI C fun i j => .int (g i j)) f := by
  intro x y v w F H Q hs rx ry p
  cases h : f x y with
  | no => rw [h] at p; exact p.elim
  | _ =>
    obtain ⟨a, b, rfl, rfl⟩ := hn x y _ h (fun z => nomatch z)
    obtain ⟨e, hc⟩ := hf a b _ h (fun z => nomatch z)
    rw [h, e] at p
    exact ⟨a, b, rx, ry, hc, p.done hs rfl⟩
theorem ov_add : OpV c (rI0 fun i j => .int (i + j)) iadd := ov0 (gv := fun a b => .int (a + b)) (fun _ _ => rfl) (fun _ _ _ => rfl) (fun x y r h n => by unfold iadd at h; split at h <;> first | exact ⟨_, _, rfl, rfl⟩ | exact absurd h.symm n)
theorem ov_sub : OpV c (rI0 fun i j => .int (i - j)) isub := ov0 (gv := fun a b => .int (a - b)) (fun _ _ => rfl) (fun _ _ _ => rfl) (fun x y r h n => by unfold isub at h; split at h <;> first | exact ⟨_, _, rfl, rfl⟩ | exact absurd h.symm n)
theorem ov_mul : OpV c (rI CMulW fun i j => .int (i * j)) imul := ovC (fun a b r h n => by simp only [imul, mulZ] at h; split at h <;> first | (rename_i hc; exact ⟨h.symm, hc⟩) | exact absurd h.symm n) (fun x y r h n => by unfold imul at h; split at h <;> first | exact ⟨_, _, rfl, rfl⟩ | exact absurd h.symm n)
theorem ov_fdiv : OpV c (rI (fun _ j => j ≠ 0 ∧ j.natAbs.log2 < 9000) fun i j => .int (i.fdiv j)) ifdiv := ovC (fun a b r h n => by simp only [ifdiv, fdivZ] at h; split at h <;> first | (rename_i hc; exact ⟨h.symm, hc⟩) | exact absurd h.symm n) (fun x y r h n => by unfold ifdiv at h; split at h <;> first | exact ⟨_, _, rfl, rfl⟩ | exact absurd h.symm n)
theorem ov_mod : OpV c (rI (fun _ j => j ≠ 0) fun i j => .int (i.fmod j)) imod := ovC (fun a b r h n => by simp only [imod, fmodZ] at h; split at h <;> first | (rename_i hc; exact ⟨h.symm, hc⟩) | exact absurd h.symm n) (fun x y r h n => by unfold imod at h; split at h <;> first | exact ⟨_, _, rfl, rfl⟩ | exact absurd h.symm n)
theorem ov_pow : OpV c (rI CPow fun i j => .int (i ^ j.toNat)) ipow := ovC (fun a b r h n => by simp only [ipow, powZ] at h; split at h <;> first | (rename_i hc; exact ⟨h.symm, hc⟩) | exact absurd h.symm n) (fun x y r h n => by unfold ipow at h; split at h <;> first | exact ⟨_, _, rfl, rfl⟩ | exact absurd h.symm n)
theorem ov_lt : OpV c (rI0 fun i j => .bl (decide (i < j))) ilt := ov0 (gv := fun a b => .bl (decide (a < b))) (fun _ _ => rfl) (fun _ _ _ => rfl) (fun x y r h n => by unfold ilt at h; split at h <;> first | exact ⟨_, _, rfl, rfl⟩ | exact absurd h.symm n)
theorem ov_le : OpV c (rI0 fun i j => .bl (decide (i ≤ j))) ile := ov0 (gv := fun a b => .bl (decide (a ≤ b))) (fun _ _ => rfl) (fun _ _ _ => rfl) (fun x y r h n => by unfold ile at h; split at h <;> first | exact ⟨_, _, rfl, rfl⟩ | exact absurd h.symm n)
theorem ov_gt : OpV c (rI0 fun i j => .bl (decide (j < i))) igt := ov0 (gv := fun a b => .bl (decide (b < a))) (fun _ _ => rfl) (fun _ _ _ => rfl) (fun x y r h n => by unfold igt at h; split at h <;> first | exact ⟨_, _, rfl, rfl⟩ | exact absurd h.symm n)
theorem ov_ge : OpV c (rI0 fun i j => .bl (decide (j ≤ i))) ige := ov0 (gv := fun a b => .bl (decide (b ≤ a))) (fun _ _ => rfl) (fun _ _ _ => rfl) (fun x y r h n => by unfold ige at h; split at h <;> first | exact ⟨_, _, rfl, rfl⟩ | exact absurd h.symm n)
theorem uv_neg : UnV c (rU fun i => .int (-i)) ineg := by
  intro x v F H Q hs rx p
  cases x with
  | int a => exact ⟨a, rx, p.done hs rfl⟩
  | _ => exact p.elim
theorem ov_eq : OpV c rEq seq := by
  intro x y v w F H Q hs rx ry p
  cases x <;> cases y <;> first | exact p.elim | skip
  · cases rx; cases ry
    refine ⟨rfl, p.done hs ?_⟩
    rw [dec_bl]; show _ = V.bl _; rw [← Bool.beq_eq_decide_eq]
  · cases rx; cases ry
    refine ⟨rfl, p.done hs ?_⟩
    rw [dec_int]; show _ = V.bl _; rw [← Bool.beq_eq_decide_eq]
  · cases rx; cases ry
    refine ⟨rfl, p.done hs ?_⟩
    rw [dec_str]; show _ = V.bl _; rw [← Bool.beq_eq_decide_eq]
theorem ov_ne : OpV c rNe sne := by
  intro x y v w F H Q hs rx ry p
  cases x <;> cases y <;> first | exact p.elim | skip
  · cases rx; cases ry
    refine ⟨rfl, p.done hs ?_⟩
    rw [dec_bl]; show _ = V.bl _; rw [← Bool.beq_eq_decide_eq]
  · cases rx; cases ry
    refine ⟨rfl, p.done hs ?_⟩
    rw [dec_int]; show _ = V.bl _; rw [← Bool.beq_eq_decide_eq]
  · cases rx; cases ry
    refine ⟨rfl, p.done hs ?_⟩
    rw [dec_str]; show _ = V.bl _; rw [← Bool.beq_eq_decide_eq]
theorem rep_non {F : Hp} {x : Val} {v : V} (r : Rep c.G F x v) : decide (v = .non) = isNon x := by
  cases x with
  | non => cases r; rfl
  | bl b => cases r; rfl
  | int b => cases r; rfl
  | str b => cases r; rfl
  | lst xs => obtain ⟨a, _, rfl, _⟩ := rep_lst r; rfl
  | tup xs => obtain ⟨a, _, rfl, _⟩ := rep_tup r; rfl
  | obj k fs => obtain ⟨a, _, _, rfl, _⟩ := rep_obj r; rfl
  | cls k => cases r; rfl
def vIsN (x y : Val) : Res Val := match y with | .non => .ok (.bl (isNon x)) | _ => .no
def vNotN (x y : Val) : Res Val := match y with | .non => .ok (.bl (!isNon x)) | _ => .no
theorem ov_isN : OpV c (fun x y H Q => y = .non ∧ Q (.bl (decide (x = .non))) H) vIsN := by
  intro x y v w F H Q hs rx ry p
  cases y <;> first | exact p.elim | skip
  cases ry
  refine ⟨rfl, p.done hs ?_⟩
  rw [rep_non rx]; rfl
theorem ov_notN : OpV c (fun x y H Q => y = .non ∧ Q (.bl (!decide (x = .non))) H) vNotN := by
  intro x y v w F H Q hs rx ry p
  cases y <;> first | exact p.elim | skip
  cases ry
  refine ⟨rfl, p.done hs ?_⟩
  rw [rep_non rx]; rfl

/-! ### built-in functions -/
theorem repL1 {F : Hp} {G : Glo} {a : Val} {vs : List V} (r : RepL G F [a] vs) : ∃ v, vs = [v] ∧ Rep G F a v := by
  simp only [RepL] at r
  obtain ⟨v, _, rfl, h1, rfl⟩ := r
  exact ⟨v, rfl, h1⟩
def bLen : List Val → Res Val
  | [.lst xs] => .ok (.int xs.length)
  | [.tup xs] => .ok (.int xs.length)
  | _ => .no
def bAbs : List Val → Res Val
  | [.int a] => .ok (.int (if a < 0 then -a else a))
  | _ => .no
def bMax2 : List Val → Res Val
  | [.int a, .int b] => .ok (.int (if b > a then b else a))
  | _ => .no
def bMin2 : List Val → Res Val
  | [.int a, .int b] => .ok (.int (if b < a then b else a))
  | _ => .no
def bInt : List Val → Res Val
  | [.int a] => .ok (.int a)
  | [.bl k] => .ok (.int (if k then 1 else 0))
  | _ => .no
def strZ (a : Int) : Res Val := if a.natAbs.log2 < 1920 then .ok (.str (toString a)) else .no
def bGcd : List Val → Res Val
  | [.int a, .int b] => .ok (.int ((Nat.gcd a.natAbs b.natAbs : Nat) : Int))
  | _ => .no
def lcmZ (a b : Int) : Res Val := if a.natAbs.log2 < 13000 ∧ b.natAbs.log2 < 13000 then .ok (.int ((Nat.lcm a.natAbs b.natAbs : Nat) : Int)) else .no
def bLcm : List Val → Res Val
  | [.int a, .int b] => lcmZ a b
  | _ => .no
def bTuple : List Val → Res Val
  | [.lst xs] => .ok (.tup xs)
  | [.tup xs] => .ok (.tup xs)
  | _ => .no
def bList : List Val → Res Val
  | [.lst xs] => .ok (.lst xs)
  | [.tup xs] => .ok (.lst xs)
  | _ => .no
theorem cv_len : CallV c (fun xs H Q => ∃ p ys, xs = [.ref p] ∧ (SqL c.G.K H p ys ∨ SqT c.G.K H p ys) ∧ Q (.int ys.length) H) bLen := by
  intro xs vs F H Q hs r p
  unfold bLen at p
  split at p
  · obtain ⟨v, rfl, rv⟩ := repL1 r
    obtain ⟨a, ws, rfl, hq, hl, rl⟩ := rep_lst rv
    refine ⟨a, ws, rfl, .inl (sqL_mono hs hq), p.done hs ?_⟩
    rw [rl.length]; rfl
  · obtain ⟨v, rfl, rv⟩ := repL1 r
    obtain ⟨a, ws, rfl, hq, hl, rl⟩ := rep_tup rv
    refine ⟨a, ws, rfl, .inr (sqT_mono hs hq), p.done hs ?_⟩
    rw [rl.length]; rfl
  · exact p.elim
theorem cv_abs : CallV c (fun xs H Q => ∃ i, xs = [.int i] ∧ Q (.int (if i < 0 then -i else i)) H) bAbs := by
  intro xs vs F H Q hs r p
  unfold bAbs at p
  split at p
  · obtain ⟨v, rfl, rv⟩ := repL1 r
    cases rv
    exact ⟨_, rfl, p.done hs rfl⟩
  · exact p.elim
theorem cv_max2 : CallV c (fun xs H Q => ∃ i j, xs = [.int i, .int j] ∧ Q (.int (if j > i then j else i)) H) bMax2 := by
  intro xs vs F H Q hs r p
  unfold bMax2 at p
  split at p
  · obtain ⟨v, w, rfl, rv, rw'⟩ := repL2 r
    cases rv; cases rw'
    exact ⟨_, _, rfl, p.done hs rfl⟩
  · exact p.elim
theorem cv_min2 : CallV c (fun xs H Q => ∃ i j, xs = [.int i, .int j] ∧ Q (.int (if j < i then j else i)) H) bMin2 := by
  intro xs vs F H Q hs r p
  unfold bMin2 at p
  split at p
  · obtain ⟨v, w, rfl, rv, rw'⟩ := repL2 r
    cases rv; cases rw'
    exact ⟨_, _, rfl, p.done hs rfl⟩
  · exact p.elim
theorem cv_int : CallV c (fun xs H Q => (∃ i, xs = [.int i] ∧ Q (.int i) H) ∨ ∃ k, xs = [.bl k] ∧ Q (.int (if k then 1 else 0)) H) bInt := by
  intro xs vs F H Q hs r p
  unfold bInt at p
  split at p
  · obtain ⟨v, rfl, rv⟩ := repL1 r
    cases rv
    exact .inl ⟨_, rfl, p.done hs rfl⟩
  · obtain ⟨v, rfl, rv⟩ := repL1 r
    cases rv
    exact .inr ⟨_, rfl, p.done hs rfl⟩
  · exact p.elim
theorem cv_gcd : CallV c rGcd bGcd := by
  intro xs vs F H Q hs r p
  unfold bGcd at p
  split at p
  · obtain ⟨v, w, rfl, rv, rw'⟩ := repL2 r
    cases rv; cases rw'
    exact ⟨_, _, rfl, p.done hs rfl⟩
  · exact p.elim
def rLcm : List V → Hp → VK → Prop := fun vs H Q => ∃ a b : Int, vs = [.int a, .int b] ∧ (a.natAbs.log2 < 13000 ∧ b.natAbs.log2 < 13000) ∧ Q (.int ((Nat.lcm a.natAbs b.natAbs : Nat) : Int)) H
theorem log2_lcm {a b : Nat} (ha : a.log2 < 13000) (hb : b.log2 < 13000) : (Nat.lcm a b).log2 < 30000 := by
  by_cases h0 : Nat.lcm a b = 0
  · rw [h0]; decide
  · have a0 : a ≠ 0 := fun z => h0 (by rw [z, Nat.lcm_zero_left])
    have b0 : b ≠ 0 := fun z => h0 (by rw [z, Nat.lcm_zero_right])
    have h1 : Nat.lcm a b ≤ a * b := Nat.le_of_dvd (Nat.mul_pos (Nat.pos_of_ne_zero a0) (Nat.pos_of_ne_zero b0)) (Nat.lcm_dvd (Nat.dvd_mul_right _ _) (Nat.dvd_mul_left _ _))
    have h2 : a < 2 ^ 13000 := (Nat.log2_lt a0).mp ha
    have h3 : b < 2 ^ 13000 := (Nat.log2_lt b0).mp hb
    have h4 : a * b < 2 ^ 13000 * 2 ^ 13000 := Nat.mul_lt_mul'' h2 h3
    rw [← Nat.pow_add] at h4
    exact (Nat.log2_lt h0).mpr (Nat.lt_of_le_of_lt h1 (Nat.lt_of_lt_of_le h4 (Nat.pow_le_pow_right (by decide) (by decide))))
theorem cr_lcm : CallR X (.builtin "math.lcm") rLcm := by
  intro pins s σ H vs us Q I r h
  obtain ⟨a, b, rfl, ⟨ha, hb⟩, q⟩ := h
  obtain ⟨t, u, rfl⟩ := Vals.int2 r
  have e : (Nat.lcm 1 a.natAbs).lcm b.natAbs = Nat.lcm a.natAbs b.natAbs := by rw [Nat.lcm_one_left]
  have mx : ∀ {m n : Nat}, m.log2 < 13000 → n.log2 < 13000 → (max m n).log2 < 13000 := fun {m n} h1 h2 => by
    rcases Nat.le_total m n with z | z
    · rw [Nat.max_eq_right z]; exact h2
    · rw [Nat.max_eq_left z]; exact h1
  have h1 : (max 1 a.natAbs).log2 < 13000 := mx (by decide) ha
  have h2 : (max a.natAbs b.natAbs).log2 < 13000 := mx ha hb
  have hsz : ((((Nat.lcm 1 a.natAbs).lcm b.natAbs : Nat) : Int)).natAbs.log2 < bitsLine := by
    rw [e, Int.natAbs_natCast]
    exact Nat.lt_of_lt_of_le (log2_lcm ha hb) (by decide)
  refine call_function_meets PySem.W.MGF.kind_lcm PySem.W.MGF.plain_lcm PySem.W.MGF.entry_lcm (PySem.W.MGF.args_lcm _ _) (PySem.W.mg_run_lcm a t b u (by omega) (by omega) hsz).meets ?_
  rw [e]
  exact ⟨.int _, H, I.tok _, ⟨_, rfl⟩, q⟩
theorem cv_lcm : CallV c rLcm bLcm := by
  intro xs vs F H Q hs r p
  unfold bLcm at p
  split at p
  · obtain ⟨v, w, rfl, rv, rw'⟩ := repL2 r
    cases rv; cases rw'
    unfold lcmZ at p
    split at p
    · rename_i hh
      exact ⟨_, _, rfl, hh, p.done hs rfl⟩
    · exact p.elim
  · exact p.elim
theorem cv_tuple : CallV c (fun xs H Q => ∃ p ys, xs = [.ref p] ∧ ((SqL c.G.K H p ys ∧ ∀ l, H l = none → Q (.ref l) (upd H l (.tup ys))) ∨ (SqT c.G.K H p ys ∧ Q (.ref p) H))) bTuple := by
  intro xs vs F H Q hs r p
  unfold bTuple at p
  split at p
  · obtain ⟨v, rfl, rv⟩ := repL1 r
    obtain ⟨a, ws, rfl, hq, hl, rl⟩ := rep_lst rv
    refine ⟨a, ws, rfl, .inl ⟨sqL_mono hs hq, fun l hn => p (.ref l) _ _ (Grow.new hs hn) ?_⟩⟩
    simp only [Rep]
    exact ⟨l, ws, rfl, .inl (.inl upd_same), hl, rl.mono (Grow.new hs hn).ff⟩
  · obtain ⟨v, rfl, rv⟩ := repL1 r
    have rv0 := rv
    obtain ⟨a, ws, rfl, hq, hl, rl⟩ := rep_tup rv
    exact ⟨a, ws, rfl, .inr ⟨sqT_mono hs hq, p.done hs rv0⟩⟩
  · exact p.elim
theorem cv_list : CallV c (fun xs H Q => ∃ p ys, xs = [.ref p] ∧ (SqL c.G.K H p ys ∨ SqT c.G.K H p ys) ∧ ∀ l, H l = none → Q (.ref l) (upd H l (.lst ys))) bList := by
  intro xs vs F H Q hs r p
  unfold bList at p
  split at p
  · obtain ⟨v, rfl, rv⟩ := repL1 r
    obtain ⟨a, ws, rfl, hq, hl, rl⟩ := rep_lst rv
    refine ⟨a, ws, rfl, .inl (sqL_mono hs hq), fun l hn => p (.ref l) _ _ (Grow.new hs hn) ?_⟩
    simp only [Rep]
    exact ⟨l, ws, rfl, .inl (.inl upd_same), hl, rl.mono (Grow.new hs hn).ff⟩
  · obtain ⟨v, rfl, rv⟩ := repL1 r
    obtain ⟨a, ws, rfl, hq, hl, rl⟩ := rep_tup rv
    refine ⟨a, ws, rfl, .inr (sqT_mono hs hq), fun l hn => p (.ref l) _ _ (Grow.new hs hn) ?_⟩
    simp only [Rep]
    exact ⟨l, ws, rfl, .inl (.inl upd_same), hl, rl.mono (Grow.new hs hn).ff⟩
  · exact p.elim
/-- sum of ints; all, any of boolsOf -/
def intsOf : List Val → Option (List Int)
  | [] => some []
  | .int a :: r => (intsOf r).map (a :: ·)
  | _ => none
def boolsOf : List Val → Option (List Bool)
  | [] => some []
  | .bl a :: r => (boolsOf r).map (a :: ·)
  | _ => none
theorem ints_rep {F : Hp} : ∀ {xs : List Val} {vs : List V} {ns : List Int}, RepL c.G F xs vs → intsOf xs = some ns → vs = ns.map V.int
  | [], vs, ns, r, h => by simp only [RepL] at r; simp [intsOf] at h; subst r h; rfl
  | x :: xs, vs, ns, r, h => by
    simp only [RepL] at r
    obtain ⟨v, w, rfl, r1, r2⟩ := r
    cases x with
    | int a =>
      simp only [intsOf, Option.map_eq_some_iff] at h
      obtain ⟨ms, h1, rfl⟩ := h
      cases r1
      rw [ints_rep r2 h1]; rfl
    | _ => cases h
theorem bools_rep {F : Hp} : ∀ {xs : List Val} {vs : List V} {ns : List Bool}, RepL c.G F xs vs → boolsOf xs = some ns → vs = ns.map V.bl
  | [], vs, ns, r, h => by simp only [RepL] at r; simp [boolsOf] at h; subst r h; rfl
  | x :: xs, vs, ns, r, h => by
    simp only [RepL] at r
    obtain ⟨v, w, rfl, r1, r2⟩ := r
    cases x with
    | bl a =>
      simp only [boolsOf, Option.map_eq_some_iff] at h
      obtain ⟨ms, h1, rfl⟩ := h
      cases r1
      rw [bools_rep r2 h1]; rfl
    | _ => cases h
def bSum : List Val → Res Val
  | [.lst xs] => (match intsOf xs with | some ns => .ok (.int ns.sum) | none => .no)
  | _ => .no
def bAll : List Val → Res Val
  | [.lst xs] => (match boolsOf xs with | some ns => .ok (.bl (ns.all id)) | none => .no)
  | _ => .no
def bAny : List Val → Res Val
  | [.lst xs] => (match boolsOf xs with | some ns => .ok (.bl (ns.any id)) | none => .no)
  | _ => .no
theorem cv_sum : CallV c (rSum c.G.K) bSum := by
  intro xs vs F H Q hs r p
  unfold bSum at p
  split at p
  · obtain ⟨v, rfl, rv⟩ := repL1 r
    obtain ⟨a, ws, rfl, hq, hl, rl⟩ := rep_lst rv
    split at p
    · rename_i ns hn
      have e := ints_rep rl hn
      subst e
      exact ⟨a, ns, rfl, sqL_mono hs hq, p.done hs rfl⟩
    · exact p.elim
  · exact p.elim
theorem cv_all : CallV c (rAll c.G.K) bAll := by
  intro xs vs F H Q hs r p
  unfold bAll at p
  split at p
  · obtain ⟨v, rfl, rv⟩ := repL1 r
    obtain ⟨a, ws, rfl, hq, hl, rl⟩ := rep_lst rv
    split at p
    · rename_i ns hn
      have e := bools_rep rl hn
      subst e
      exact ⟨a, ns, rfl, sqL_mono hs hq, p.done hs rfl⟩
    · exact p.elim
  · exact p.elim
theorem cv_any : CallV c (rAny c.G.K) bAny := by
  intro xs vs F H Q hs r p
  unfold bAny at p
  split at p
  · obtain ⟨v, rfl, rv⟩ := repL1 r
    obtain ⟨a, ws, rfl, hq, hl, rl⟩ := rep_lst rv
    split at p
    · rename_i ns hn
      have e := bools_rep rl hn
      subst e
      exact ⟨a, ns, rfl, sqL_mono hs hq, p.done hs rfl⟩
    · exact p.elim
  · exact p.elim
end
end Mir
namespace Mir
open PySem PySem.Spec PyProof.Rows L2

/-! ### __init__: attributes of the object that is being made -/
theorem putF_new {f : Str} {v : V} : ∀ {l : List (Str × V)}, f ∉ l.map (·.1) → putF f v l = l ++ [(f, v)]
  | [], _ => rfl
  | (g, w) :: r, h => by
    have hne : g ≠ f := fun e => h (by rw [e]; exact List.mem_cons_self)
    have e : putF f v ((g, w) :: r) = (g, w) :: putF f v r := by simp [putF, hne]
    rw [e, putF_new fun m => h (List.mem_cons_of_mem _ m)]
    rfl
theorem zip_snoc {names : List Str} : ∀ {vs : List V} {f : Str} {v : V}, names[vs.length]? = some f → names.zip (vs ++ [v]) = names.zip vs ++ [(f, v)] := by
  induction names with
  | nil => intro vs f v h; simp at h
  | cons n ns ih =>
    intro vs f v h
    cases vs with
    | nil => simp at h; subst h; simp
    | cons w ws =>
      simp at h
      simp [ih h]
theorem zip_keys {names : List Str} : ∀ {vs : List V}, (names.zip vs).map (·.1) = names.take vs.length := by
  induction names with
  | nil => intro vs; simp
  | cons n ns ih => intro vs; cases vs with
    | nil => simp
    | cons w ws => simp [ih]
/-- the next attribute is stored -/
theorem At.slf {c : Cxt} {F H : Hp} {σ : L2.St} {ρ : Ros} {i k : Nat} {fs : List Val} {f : Str} {x : Val} {v : V} {a : Addr} (s : At c F H σ ρ) (hi : ρ[i]? = some (some (.slf k fs))) (hσ : σ[i]? = some (some (.ref a))) (hf : (c.G.flds k)[fs.length]? = some f) (nd : (c.G.flds k).Nodup) (r : Rep c.G F x v)
    (only : ∀ (j k' : Nat) (gs : List Val), ρ[j]? = some (some (Ent.slf k' gs)) → j = i) (np : ∀ (j : Nat) (gs : List Val), ρ[j]? ≠ some (some (Ent.pot gs))) :
    ∃ dx us, H a = some (.ins (c.G.cls k) dx us) ∧ us.length < (c.G.flds k).length ∧ At c F (upd H a (.ins (c.G.cls k) dx (putF f v us))) σ (ρ.set i (some (.slf k (fs ++ [x])))) := by
  obtain ⟨b, dx, vs, e0, e, h1, h2, l, rl⟩ := s.slfs i k fs hi
  rw [hσ] at e
  cases e
  have hlen : vs.length = fs.length := rl.length
  have hlt : fs.length < (c.G.flds k).length := (List.getElem?_eq_some_iff.mp hf).1
  have hnot : f ∉ ((c.G.flds k).zip vs).map (·.1) := by
    rw [zip_keys, hlen]
    intro m
    obtain ⟨j, hj, ej⟩ := List.getElem_of_mem m
    have hj' : j < fs.length := by
      rw [List.length_take] at hj; omega
    rw [List.getElem_take] at ej
    obtain ⟨hl, el⟩ := List.getElem?_eq_some_iff.mp hf
    have : j = fs.length := (List.getElem_inj nd).mp (ej.trans el.symm)
    omega
  refine ⟨dx, _, h1, by rw [List.length_zip]; omega, ?_⟩
  rw [putF_new hnot, ← zip_snoc (by rw [hlen]; exact hf)]
  have un : ∀ {b : Addr} {o : HO}, b ≠ a → H b = some o → upd H a (.ins (c.G.cls k) dx ((c.G.flds k).zip (vs ++ [v]))) b = some o := fun {b o} n q => by rw [upd_ne n]; exact q
  have o : ∀ {j : Nat} {y : Ent}, (ρ.set i (some (.slf k (fs ++ [x]))))[j]? = some (some y) → (j = i ∧ y = .slf k (fs ++ [x])) ∨ (j ≠ i ∧ ρ[j]? = some (some y)) := fun {j y} h => by
    by_cases e : j = i
    · subst e
      by_cases hl : j < ρ.length
      · rw [List.getElem?_set_self hl] at h; cases h; exact .inl ⟨rfl, rfl⟩
      · rw [List.getElem?_eq_none (by simpa using hl)] at h; cases h
    · rw [List.getElem?_set_ne (Ne.symm e)] at h; exact .inr ⟨e, h⟩
  refine ⟨fun b ob q => un (ne_of_none q h2) (s.sub _ _ q), fun b ob q n => un (fun z => n (by rw [e0, z])) (s.kept b ob q n), fun b q => ?_, s.fresh, s.ff, fun j y h => ?_, fun j ys h => ?_, fun j ys h => ?_, fun j k' ys h => ?_, fun j l ys zs b n h h' q => ?_, s.pdist, s.len⟩
  · by_cases z : b = a
    · subst z; rw [upd_same] at q; cases q
    · rw [upd_ne z] at q; exact s.dom b q
  · rcases o h with ⟨rfl, e⟩ | ⟨n, h⟩
    · cases e
    · exact s.vals j y h
  · rcases o h with ⟨rfl, e⟩ | ⟨n, h⟩
    · cases e
    · obtain ⟨b, ws, q1, q2, q3, q4, q5⟩ := s.muts j ys h
      refine ⟨b, ws, q1, un (fun z => ?_) q2, q3, q4, q5⟩
      subst z
      rw [h1] at q2
      cases q2
  · rcases o h with ⟨rfl, e⟩ | ⟨n, h⟩
    · cases e
    · exact absurd h (np j ys)
  · rcases o h with ⟨rfl, e⟩ | ⟨n, h⟩
    · cases e
      exact ⟨a, dx, vs ++ [v], e0, hσ, upd_same, h2, by rw [List.length_append]; simp; omega, rl.append (RepL.cons r RepL.nil)⟩
    · exact absurd (only j k' ys h) n
  · rcases o h with ⟨rfl, e⟩ | ⟨n1, h1'⟩
    · cases e
    rcases o h' with ⟨rfl, e⟩ | ⟨n2, h2'⟩
    · cases e
    exact s.dist j l ys zs b n h1' h2' q
/-- how an __init__ ends -/
def relI (G : Glo) (k : Nat) (p : Addr) : Hp → Hp → V → List Val → Prop := fun F H v ys => v = .non ∧ F p = none ∧ ∃ dx us, H p = some (.ins (G.cls k) dx ((G.flds k).zip us)) ∧ us.length = (G.flds k).length ∧ RepL G F ys us
section
variable {c : Cxt} {X : Cx} {rest sts : List Stmt} {t u tr : TS} {ρ ρ' : Ros} {te to : TE} {e o : Expr} {m : Res Val} {pos pos' : Pos} {k i : Nat} {p : Addr}
/-- self.f = e -/
theorem sb_fld {α : Type} {rel : Hp → Hp → V → α → Prop} {N C B : Exit α} {fs : List Val} {f : Str} {g : Val → Res α} (ho : PE X o (tVar i)) (he : EX c X e te ρ m) (hi : ρ[i]? = some (some (.slf k fs))) (hf : (c.G.flds k)[fs.length]? = some f) (nd : (c.G.flds k).Nodup) (h6 : (c.G.flds k).length ≤ 500)
    (hk : Cls X.K (c.G.cls k)) (hn : NoAttr X.K (c.G.cls k) f) (only : ∀ (j k' : Nat) (gs : List Val), ρ[j]? = some (some (Ent.slf k' gs)) → j = i) (np : ∀ (j : Nat) (gs : List Val), ρ[j]? ≠ some (some (Ent.pot gs)))
    (h : ∀ x, SB c X rel rest tr (ρ.set i (some (.slf k (fs ++ [x])))) (g x) N C B) (hs : swapsWith e (some (.Attribute o f pos')) pos.line X.env = pure false := by rfl) :
    SB c X rel (.Assign [.Attribute o f pos'] e pos :: rest) (tSeq (sFld X.K (tVar i) te f) tr) ρ (m >>= g) N C B := by
  refine ⟨pss_cons (ps_fld ho he.pe hs) (h .non).ps, fun D Q σ F H hrt hN hC hB s p => ?_⟩
  refine he.ev σ F H _ s (fin_post s p fun x v F1 H1 _ gg s1 r1 p1 => ?_)
  obtain ⟨a, _, _, e0, ea, _⟩ := s1.slfs i k fs hi
  obtain ⟨dx, us, q1, q2, s2⟩ := s1.slf hi ea hf nd r1 only np
  refine ⟨.ref a, ea, a, _, dx, us, rfl, q1, hk, hn, by omega, ?_⟩
  exact (h x).bx D Q σ F1 _ hrt (fun σ2 F2 H2 ρ2 r2 z => hN σ2 F2 H2 ρ2 r2 (gg.ff.trans z)) (fun σ2 F2 H2 ρ2 r2 z => hC σ2 F2 H2 ρ2 r2 (gg.ff.trans z)) (fun σ2 F2 H2 ρ2 r2 z => hB σ2 F2 H2 ρ2 r2 (gg.ff.trans z)) s2 p1
end
/-- the entry of an __init__ -/
def rhoI (n k : Nat) (xs : List Val) : Ros := some (.slf k []) :: (xs.map (fun x => some (.val x)) ++ List.replicate (n - 1 - xs.length) none)
theorem at_startI {G : Glo} {E : XK} {F H : Hp} {N : List Str} {xs : List Val} {vs : List V} {a dx : Addr} {k : Nat} (h : Same F H) (ha : H a = some (.ins (G.cls k) dx [])) (hF : F a = none) (r : RepL G F xs vs) (hl : vs.length + 1 ≤ N.length) :
    At ⟨G, E, H, F, some a, N.length⟩ F H (L2.start N (.ref a :: vs)) (rhoI N.length k xs) := by
  have hx : xs.length = vs.length := r.length.symm
  have q : ∀ {i : Nat} {y : Ent}, (rhoI N.length k xs)[i]? = some (some y) → (i = 0 ∧ y = .slf k []) ∨ ∃ j x, i = j + 1 ∧ xs[j]? = some x ∧ y = .val x := fun {i y} e => by
    unfold rhoI at e
    cases i with
    | zero => simp at e; exact .inl ⟨rfl, e.symm⟩
    | succ j =>
      right
      rw [List.getElem?_cons_succ] at e
      by_cases hi : j < xs.length
      · rw [List.getElem?_append_left (by simpa using hi), List.getElem?_map] at e
        rw [List.getElem?_eq_getElem hi] at e
        simp at e
        exact ⟨j, _, rfl, List.getElem?_eq_getElem hi, e.symm⟩
      · rw [List.getElem?_append_right (by simpa using hi), List.getElem?_replicate] at e
        split at e <;> cases e
  have hs0 : (L2.start N (.ref a :: vs))[0]? = some (some (.ref a)) := by unfold L2.start; simp
  refine ⟨h, fun b o e _ => e, fun b e => e, fun b o e => .inl e, Same.refl _, fun i x e => ?_, fun i xs e => ?_, fun i xs e => ?_, fun i k' xs e => ?_, fun i j xs ys b _ e => ?_, fun b e => ?_, ?_⟩
  · rcases q e with ⟨rfl, e2⟩ | ⟨j, y, rfl, e1, e2⟩
    · cases e2
    · cases e2
      obtain ⟨v, hv, rv⟩ := r.get e1
      refine ⟨v, ?_, rv⟩
      unfold L2.start
      have hi : j < vs.length := (List.getElem?_eq_some_iff.mp hv).1
      rw [List.map_cons, List.cons_append, List.getElem?_cons_succ, List.getElem?_append_left (by simpa using hi), List.getElem?_map, hv]
      rfl
  · rcases q e with ⟨rfl, e2⟩ | ⟨j, y, rfl, e1, e2⟩ <;> cases e2
  · rcases q e with ⟨rfl, e2⟩ | ⟨j, y, rfl, e1, e2⟩ <;> cases e2
  · rcases q e with ⟨rfl, e2⟩ | ⟨j, y, rfl, e1, e2⟩
    · cases e2
      exact ⟨a, dx, [], rfl, hs0, by simpa using ha, hF, Nat.zero_le _, RepL.nil⟩
    · cases e2
  · rcases q e with ⟨rfl, e2⟩ | ⟨j, y, rfl, e1, e2⟩ <;> cases e2
  · cases e
    exact ⟨_, ha⟩
  · unfold L2.start
    rw [List.length_append, List.length_map, List.length_replicate]
    show _ = N.length
    simp only [List.length_cons]
    omega
section
variable {c : Cxt} {X : Cx} {ρ ρ' : Ros} {k i : Nat} {p : Addr}
/-- the end of an __init__: all attributes are there -/
def doneI (k n : Nat) : Exit (List Val) := fun ρ r => ∃ ys, ρ[0]? = some (some (.slf k ys)) ∧ ys.length = n ∧ r = .ok ys
end
theorem fnI {P : Program} {w : World} {K : PySem.W.Frag} {mg : Str → Option Value} {base : Heap} {G : Glo} {x qual : Str} {st : Stmt} {f : Addr} {fd : FuncData} {N ps : List Str} {n k c0 : Nat} {dvs : List V} {mi : List Val → Res (List Val)} (Fd : FnD K x qual st dvs f fd) (S : FnScope N ps (defScope st)) (hps : ps.length = n + 1) (d : List Val) (hd : d.length = n)
    (hbody : ∀ (cdv : Value) (A : Around) (outer : List PySem.Env) (s : Shared) (H : Hp) (E : XK), Bd P w k E (cxOf (L2.CX P w) P w K mg base N qual (defScope st) f cdv A outer s H E) →
      ∃ t, ∀ (F0 : Hp) (a : Addr) (xs : List Val), xs.length = n → SB ⟨G, E, H, F0, some a, N.length⟩ (cxOf (L2.CX P w) P w K mg base N qual (defScope st) f cdv A outer s H E) (relI G c0 a) (defBody st) t (rhoI N.length c0 xs) (mi xs) (doneI c0 (G.flds c0).length) X0 X0) :
    FnOk P w K mg base (L2.CX P w) (k + 1) f fd ps (spI G c0 n mi) := by
  refine FunD.ok Fd S (fun vs H Q E h => ?_) (fun cdv A outer s H vs Q E hr h => ?_)
  · obtain ⟨F, xs, a, dx, ws, rfl, _, _, _, _, e, _⟩ := h
    rw [List.length_cons, e, hps]
  · obtain ⟨F, xs, a, dx, ws, rfl, ha, hF, hs, r, e, p⟩ := h
    have tk : Takes (cxOf (L2.CX P w) P w K mg base N qual (defScope st) f cdv A outer s H E) (fun cls d _ H => E cls d H) := takes_of rfl rfl rfl rfl
    obtain ⟨t, hb⟩ := hbody cdv A outer s H E ⟨hr, passes_call tk fun _ _ _ _ h => h, tk, passes_of rfl⟩
    refine ⟨t, (hb F a d hd).ps, ?_⟩
    have hl : ws.length + 1 ≤ N.length := by
      have := congrArg List.length S.pre
      rw [List.length_take] at this
      omega
    have s0 := at_startI (G := G) (E := E) (N := N) (k := c0) hs ha hF r hl
    refine (hb F a xs (by rw [← r.length]; exact e)).bx { nx := fun _ H' => Q .non H', rt := Q } Q _ F H rfl (fun σ' F' H' ρ' r' _ q s' p' => ?_) (fun _ _ _ _ _ _ z => z.elim) (fun _ _ _ _ _ _ z => z.elim) s0 ?_
    · obtain ⟨ys, q1, q2, rfl⟩ := q
      obtain ⟨b, dx', us, e0, e1, h1, h2, l, rl⟩ := s'.slfs 0 c0 ys q1
      cases e0
      exact p' .non F' H' (Same.refl _) s'.sub s'.kept s'.fresh ⟨rfl, h2, dx', us, h1, by rw [rl.length]; exact q2, rl⟩
    · cases hm : mi xs with
      | no => rw [hm] at p; exact p
      | ok ys =>
        rw [hm] at p
        intro v F' H' a1 a2 a3 a4 a5
        obtain ⟨rfl, hFa, dx', us, h1, h2, h3⟩ := a5
        exact p F' H' dx' us a1 a2 (fun b o q n => a3 b o q fun z => n (by cases z; rfl)) a4 h1 h2 h3
      | err ex =>
        rw [hm] at p
        exact fun cl dd F' H' a1 a2 a3 a4 a5 => p cl dd F' H' a1 a2 (fun b o q n => a3 b o q fun z => n (by cases z; rfl)) a4 a5
end Mir
namespace Mir
open PySem PySem.Spec PyProof.Rows L2

/-! ### short words for what comes out -/
def op2 (f : Val → Val → Res Val) (m1 m2 : Res Val) : Res Val := m1 >>= fun x => m2 >>= fun y => f x y
def consR (m : Res Val) (ml : Res (List Val)) : Res (List Val) := m >>= fun x => ml >>= fun xs => .ok (x :: xs)
def iteR {α : Type} (mb : Res Bool) (r1 r2 : Res α) : Res α := mb >>= fun k => if k = true then r1 else r2
def tst (m : Res Val) : Res Bool := m >>= asB
def notB (mb : Res Bool) : Res Bool := mb >>= fun k => .ok (!k)
def notV (m : Res Val) : Res Val := m >>= fun v => asB v >>= fun k => .ok (.bl (!k))
def a1 (f : Val → Res Val) : List Val → Res Val
  | [a] => f a
  | _ => .no
def a2 (f : Val → Val → Res Val) : List Val → Res Val
  | [a, b] => f a b
  | _ => .no
def a3 (f : Val → Val → Val → Res Val) : List Val → Res Val
  | [a, b, c] => f a b c
  | _ => .no
def a4 (f : Val → Val → Val → Val → Res Val) : List Val → Res Val
  | [a, b, c, d] => f a b c d
  | _ => .no
def i1 (f : Val → Res (List Val)) : List Val → Res (List Val)
  | [a] => f a
  | _ => .no
def i2 (f : Val → Val → Res (List Val)) : List Val → Res (List Val)
  | [a, b] => f a b
  | _ => .no
@[simp] theorem op2_ok {f : Val → Val → Res Val} {x y : Val} : op2 f (.ok x) (.ok y) = f x y := rfl
@[simp] theorem consR_ok {x : Val} {xs : List Val} : consR (.ok x) (.ok xs) = .ok (x :: xs) := rfl
@[simp] theorem iteR_t {α : Type} {r1 r2 : Res α} : iteR (.ok true) r1 r2 = r1 := rfl
@[simp] theorem iteR_f {α : Type} {r1 r2 : Res α} : iteR (.ok false) r1 r2 = r2 := rfl
theorem iteR_ok {α : Type} {r1 r2 : Res α} {b : Bool} : iteR (.ok b) r1 r2 = if b = true then r1 else r2 := rfl
@[simp] theorem tst_ok {b : Bool} : tst (.ok (.bl b)) = .ok b := rfl
@[simp] theorem notB_ok {b : Bool} : notB (.ok b) = .ok (!b) := rfl
@[simp] theorem notV_ok {b : Bool} : notV (.ok (.bl b)) = .ok (.bl (!b)) := rfl
@[simp] theorem a1_ok {f : Val → Res Val} {a : Val} : a1 f [a] = f a := rfl
@[simp] theorem a2_ok {f : Val → Val → Res Val} {a b : Val} : a2 f [a, b] = f a b := rfl
@[simp] theorem a3_ok {f : Val → Val → Val → Res Val} {a b c : Val} : a3 f [a, b, c] = f a b c := rfl
@[simp] theorem a4_ok {f : Val → Val → Val → Val → Res Val} {a b c d : Val} : a4 f [a, b, c, d] = f a b c d := rfl
@[simp] theorem i1_ok {f : Val → Res (List Val)} {a : Val} : i1 f [a] = f a := rfl
@[simp] theorem i2_ok {f : Val → Val → Res (List Val)} {a b : Val} : i2 f [a, b] = f a b := rfl

/-! ### isinstance -/
def tagS : Val → Option String
  | .non => some "NoneType"
  | .bl _ => some "bool"
  | .int _ => some "int"
  | .str _ => some "str"
  | .lst _ => some "list"
  | .tup _ => some "tuple"
  | _ => none
/-- what the head tells of the classes -/
structure Kinds (G : Glo) : Prop where
  ob : ∀ k, k < G.n → Cls G.K (G.cls k)
  ha : ∀ k, k < G.n → PySem.W.findIn G.K (.ref (G.cls k)) "__class__" = some (some (.builtin "object.__class__"))
  hn : PySem.W.specialIn G.K (.builtin "object.__class__") "__get__" = some (some (.builtin "getset_descriptor.__get__"))
  ht : PySem.W.takesIn G.K (.builtin "object.__class__") = some true
  hm : ∀ k, k < G.n → PySem.W.mroIn G.K (G.cls k) (.type "object") = some true
  nb : ∀ k, k < G.n → ∀ T, T ∈ ["int", "bool", "list", "tuple", "str"] → PySem.W.kitOne G.K (.ref (G.cls k)) (.type T) = some false
  no : ∀ k, k < G.n → ∀ T, T ∈ ["NoneType", "bool", "int", "str", "list", "tuple"] → PySem.W.kitOne G.K (.type T) (.ref (G.cls k)) = some false
  oo : ∀ k j, k < G.n → j < G.n → PySem.W.kitOne G.K (.ref (G.cls k)) (.ref (G.cls j)) = some (decide (k = j))
/-- isinstance(x, T), T a built-in class -/
def isB (n : Nat) (T : String) : Val → Res Val
  | .obj k _ => if k < n ∧ T ∈ ["int", "bool", "list", "tuple", "str"] then .ok (.bl false) else .no
  | x => match tagS x with
    | some a => (match L2.kitB a T with | some b => .ok (.bl b) | none => .no)
    | none => .no
/-- isinstance(x, C), C an own class -/
def isO (n j : Nat) : Val → Res Val
  | .obj k _ => if k < n ∧ j < n then .ok (.bl (decide (k = j))) else .no
  | x => match tagS x with
    | some _ => if j < n then .ok (.bl false) else .no
    | none => .no
theorem rep_ty {G : Glo} {F H : Hp} {x : Val} {v : V} {a : String} (hs : Same F H) (r : Rep G F x v) (h : tagS x = some a) : TyX G.K H v (.type a) := by
  cases x with
  | non => cases h; cases r; exact .base .non
  | bl b => cases h; cases r; exact .base (.bl b)
  | int b => cases h; cases r; exact .base (.int b)
  | str b => cases h; cases r; exact .base (.str b)
  | lst xs =>
    cases h
    obtain ⟨p, vs, rfl, hq, _⟩ := rep_lst r
    rcases sqL_mono hs hq with (q | ⟨o, q⟩) | ⟨o, its, n, q1, q2, _⟩
    · exact .base (.lst q)
    · exact .base (.frz q)
    · exact .kList q1 q2
  | tup xs =>
    cases h
    obtain ⟨p, vs, rfl, hq, _⟩ := rep_tup r
    rcases sqT_mono hs hq with (q | ⟨o, q⟩) | ⟨o, its, n, q1, q2, _⟩
    · exact .base (.tup q)
    · exact .fTuple q
    · exact .kTuple q1 q2
  | obj k fs => cases h
  | cls k => cases h
theorem rep_tyO {G : Glo} {F H : Hp} {k : Nat} {fs : List Val} {v : V} (Kd : Kinds G) (hk : k < G.n) (hs : Same F H) (r : Rep G F (.obj k fs) v) : TyX G.K H v (.ref (G.cls k)) := by
  simp only [Rep] at r
  obtain ⟨a, dx, vs, rfl, hF, _⟩ := r
  exact .base (.ins (hs _ _ hF) (Kd.ob k hk) (Kd.ha k hk) Kd.hn Kd.ht (Kd.hm k hk))
theorem tag_mem {x : Val} {a : String} (h : tagS x = some a) : a ∈ ["NoneType", "bool", "int", "str", "list", "tuple"] := by
  cases x <;> cases h <;> simp
section
variable {c : Cxt} {X : Cx} {e a b : Expr} {es : List Expr} {ta tb te : TE} {tA : TA} {ρ : Ros} {m m1 m2 : Res Val} {ml : Res (List Val)} {p pos : Pos} {T : String} {j : Nat}
theorem ex_isB (Kd : Kinds c.G) (hK : X.K = c.G.K) (hg : Gl X "isinstance") (hm : X.mg "isinstance" = none) (h : EX c X a ta ρ m) (hb : PE X b (tC (.ty T))) (he : starEach [a, b] X.env = (false, eval a X.env) :: starEach [b] X.env := by rfl) (he2 : starEach [b] X.env = (false, eval b X.env) :: starEach [] X.env := by rfl) (hpl : (backTo pos (starEach [b] X.env)).any (·.1) = false := by rfl) :
    EX c X (.Call (.Name "isinstance" p) [a, b] [] pos) (tCB (rIsi X.K) (tCons ta (tCons (tC (.ty T)) tNil))) ρ (m >>= isB c.G.n T) := by
  refine ⟨pe_callB call_isi hg hm (by decide +kernel) (pa_cons h.pe (pa_cons hb pa_nil he2) he) (by decide) (by decide) he hpl, fun σ F H Q s q => h.ev σ F H _ s ?_⟩
  cases m with
  | err e => exact q
  | no => exact q
  | ok x =>
    intro v F1 H1 g r
    have p1 : PostV c F1 H1 Q (isB c.G.n T x) := PostX.grow g q
    rw [hK]
    cases x with
    | obj k fs =>
      simp only [isB] at p1
      split at p1
      · rename_i hh
        exact ⟨v, .ty T, _, _, false, rfl, .ty T, rep_tyO Kd hh.1 g.fh r, Kd.nb k hh.1 T hh.2, p1.done g.fh rfl⟩
      · exact p1.elim
    | cls k => exact p1.elim
    | _ =>
      simp only [isB, tagS] at p1
      split at p1
      · rename_i bb hb
        exact ⟨v, .ty T, _, _, bb, rfl, .ty T, rep_ty g.fh r rfl, kit_ty hb, p1.done g.fh rfl⟩
      · exact p1.elim
theorem ex_isO (Kd : Kinds c.G) (hK : X.K = c.G.K) (hg : Gl X "isinstance") (hm : X.mg "isinstance" = none) (h : EX c X a ta ρ m) (hb : PE X b (tC (.ref (c.G.cls j)))) (he : starEach [a, b] X.env = (false, eval a X.env) :: starEach [b] X.env := by rfl) (he2 : starEach [b] X.env = (false, eval b X.env) :: starEach [] X.env := by rfl) (hpl : (backTo pos (starEach [b] X.env)).any (·.1) = false := by rfl) :
    EX c X (.Call (.Name "isinstance" p) [a, b] [] pos) (tCB (rIsi X.K) (tCons ta (tCons (tC (.ref (c.G.cls j))) tNil))) ρ (m >>= isO c.G.n j) := by
  refine ⟨pe_callB call_isi hg hm (by decide +kernel) (pa_cons h.pe (pa_cons hb pa_nil he2) he) (by decide) (by decide) he hpl, fun σ F H Q s q => h.ev σ F H _ s ?_⟩
  cases m with
  | err e => exact q
  | no => exact q
  | ok x =>
    intro v F1 H1 g r
    have p1 : PostV c F1 H1 Q (isO c.G.n j x) := PostX.grow g q
    rw [hK]
    cases x with
    | obj k fs =>
      simp only [isO] at p1
      split at p1
      · rename_i hh
        exact ⟨v, .ref _, _, _, _, rfl, .own _, rep_tyO Kd hh.1 g.fh r, Kd.oo k j hh.1 hh.2, p1.done g.fh rfl⟩
      · exact p1.elim
    | cls k => exact p1.elim
    | _ =>
      simp only [isO, tagS] at p1
      split at p1
      · rename_i hh
        exact ⟨v, .ref _, _, _, _, rfl, .own _, rep_ty g.fh r rfl, Kd.no j hh _ (by simp), p1.done g.fh rfl⟩
      · exact p1.elim
/-- isinstance(x, (list, tuple)) -/
def isLT (n : Nat) : Val → Res Val
  | .obj k _ => if k < n then .ok (.bl false) else .no
  | .lst _ => .ok (.bl true)
  | .tup _ => .ok (.bl true)
  | .cls _ => .no
  | _ => .ok (.bl false)
theorem ex_isLT {b1 b2 : Expr} {kk : Nat} {pt : Pos} (Kd : Kinds c.G) (hK : X.K = c.G.K) (hg : Gl X "isinstance") (hm : X.mg "isinstance" = none) (h : EX c X a ta ρ m) (hb1 : PE X b1 (tC (.ty "list"))) (hb2 : PE X b2 (tC (.ty "tuple")))
    (he : starEach [a, .Tuple [b1, b2] kk pt] X.env = (false, eval a X.env) :: starEach [.Tuple [b1, b2] kk pt] X.env := by rfl) (he2 : starEach [.Tuple [b1, b2] kk pt] X.env = (false, eval (.Tuple [b1, b2] kk pt) X.env) :: starEach [] X.env := by rfl)
    (he3 : starEach [b1, b2] X.env = (false, eval b1 X.env) :: starEach [b2] X.env := by rfl) (he4 : starEach [b2] X.env = (false, eval b2 X.env) :: starEach [] X.env := by rfl) (hpl : (backTo pos (starEach [.Tuple [b1, b2] kk pt] X.env)).any (·.1) = false := by rfl) :
    EX c X (.Call (.Name "isinstance" p) [a, .Tuple [b1, b2] kk pt] [] pos) (tCB (rIsiT X.K) (tCons ta (tCons (tTup (tCons (tC (.ty "list")) (tCons (tC (.ty "tuple")) tNil))) tNil))) ρ (m >>= isLT c.G.n) := by
  refine ⟨pe_callB call_isiT hg hm (by decide +kernel) (pa_cons h.pe (pa_cons (pe_tup (pa_cons hb1 (pa_cons hb2 pa_nil he4) he3)) pa_nil he2) he) (by decide) (by decide) he hpl, fun σ F H Q s q => h.ev σ F H _ s ?_⟩
  cases m with
  | err e => exact q
  | no => exact q
  | ok x =>
    intro v F1 H1 g r
    have p1 : PostV c F1 H1 Q (isLT c.G.n x) := PostX.grow g q
    refine ⟨by show 2 ≤ sizeLine; decide, fun l hl => ?_⟩
    have gl := Grow.new (o := .tup [.ty "list", .ty "tuple"]) g.fh hl
    have p2 : PostV c (upd F1 l (.tup [.ty "list", .ty "tuple"])) (upd H1 l (.tup [.ty "list", .ty "tuple"])) Q (isLT c.G.n x) := PostX.grow gl p1
    have r2 := r.mono gl.ff
    rw [hK]
    have fin : ∀ (t : Value) (bb : Bool), TyX c.G.K (upd H1 l (.tup [.ty "list", .ty "tuple"])) v t → PySem.W.kitAny c.G.K t [.type "list", .type "tuple"] = some bb → isLT c.G.n x = .ok (.bl bb) →
        rIsiT c.G.K [v, .ref l] (upd H1 l (.tup [.ty "list", .ty "tuple"])) Q := fun t bb ht hb e => by
      rw [e] at p2
      exact ⟨v, l, [.ty "list", .ty "tuple"], t, [.type "list", .type "tuple"], bb, rfl, upd_same, .cons (.ty _) (.cons (.ty _) .nil), ht, hb, p2.done gl.fh rfl⟩
    cases x with
    | obj k fs =>
      by_cases hk : k < c.G.n
      · refine fin _ false (rep_tyO Kd hk gl.fh r2) ?_ (by simp [isLT, hk])
        unfold PySem.W.kitAny
        rw [Kd.nb k hk "list" (by simp)]
        unfold PySem.W.kitAny
        rw [Kd.nb k hk "tuple" (by simp)]
        rfl
      · simp only [isLT, if_neg hk] at p1
        exact p1.elim
    | cls k => exact p1.elim
    | non => exact fin _ false (rep_ty gl.fh r2 rfl) (by rfl) rfl
    | bl _ => exact fin _ false (rep_ty gl.fh r2 rfl) (by rfl) rfl
    | int _ => exact fin _ false (rep_ty gl.fh r2 rfl) (by rfl) rfl
    | str _ => exact fin _ false (rep_ty gl.fh r2 rfl) (by rfl) rfl
    | lst _ => exact fin _ true (rep_ty gl.fh r2 rfl) (by rfl) rfl
    | tup _ => exact fin _ true (rep_ty gl.fh r2 rfl) (by rfl) rfl
end
end Mir
namespace Mir
open PySem PySem.Spec PyProof.Rows L2

/-! ### wrappers in short words -/
section
variable {c : Cxt} {X : Cx} {e a b : Expr} {es : List Expr} {ta tb te : TE} {tt tu : TT} {tA : TA} {ρ : Ros} {m m1 m2 : Res Val} {mb mb2 : Res Bool} {ml : Res (List Val)} {p pos : Pos}
theorem x_op {op : Operator} {r : R2} {f : Val → Val → Res Val} (ho : OpR X (binaryOp op) r) (hf : OpV c r f) (h1 : EX c X a ta ρ m1) (h2 : EX c X b tb ρ m2) : EX c X (.BinOp a op b pos) (tOp r ta tb) ρ (op2 f m1 m2) := ex_op ho hf h1 h2
theorem x_cmp {op : CmpOp} {r : R2} {f : Val → Val → Res Val} (ho : OpR X (compareOp op) r) (hf : OpV c r f) (h1 : EX c X a ta ρ m1) (h2 : EX c X b tb ρ m2) (hm : behindInMarks op b = false := by first | exact nomark _ | rfl) : EX c X (.Compare a [op] [b] pos) (tOp r ta tb) ρ (op2 f m1 m2) := ex_cmp ho hf h1 h2 hm
theorem t_cmp {op : CmpOp} {r : R2} {f : Val → Val → Res Val} (ho : OpR X (compareOp op) r) (hf : OpV c r f) (h1 : EX c X a ta ρ m1) (h2 : EX c X b tb ρ m2) (hm : behindInMarks op b = false := by first | exact nomark _ | rfl) : ET c X (.Compare a [op] [b] pos) (tTest (tOp r ta tb)) ρ (tst (op2 f m1 m2)) := et_cmp ho hf h1 h2 hm
theorem t_val (h : EX c X e te ρ m) (he : ∀ whole, isTrue e X.env whole = (do let v ← whole; standAt e.pos; holding [v] (truthy v)) := by intro _; rfl) : ET c X e (tB te) ρ (tst m) := et_val h he
theorem t_not (h : ET c X a tt ρ mb) : ET c X (.UnaryOp .Not a pos) (tNot tt) ρ (notB mb) := et_not h
theorem x_not (h : EX c X a ta ρ m) : EX c X (.UnaryOp .Not a pos) (tNotV ta) ρ (notV m) := ex_not h
theorem x_if {cnd : Expr} (h : ET c X cnd tt ρ mb) (h1 : EX c X a ta ρ m1) (h2 : EX c X b tb ρ m2) : EX c X (.IfExp cnd a b pos) (tIf tt ta tb) ρ (iteR mb m1 m2) := ex_if h h1 h2
theorem a_cons (h : EX c X e te ρ m) (hr : EA c X es tA ρ ml) (hs : starEach (e :: es) X.env = (false, eval e X.env) :: starEach es X.env := by rfl) : EA c X (e :: es) (tCons te tA) ρ (consR m ml) := ea_cons h hr hs
theorem x_un {op : UnaryOp} {r : V → Hp → VK → Prop} {f : Val → Res Val} (ho : UnR X (unaryOp op) r) (hf : UnV c r f) (h : EX c X a ta ρ m) : EX c X (.UnaryOp op a pos) (tUn r ta) ρ (m >>= f) := ex_un ho hf h
/-- a built-in function by its name -/
theorem x_blt {x : Str} {id : String} {r : List V → Hp → VK → Prop} {f : List Val → Res Val} (hc : CallR X (.builtin id) r) (hv : CallV c r f) (hg : Gl X x) (hm : X.mg x = none) (hb : bootBuiltins x = some (.builtin id)) (h : EA c X (e :: es) tA ρ ml) (hn : x ≠ "__name__" := by decide) (hdb : (x == ("__debug__" : Str)) = false := by decide)
    (he : starEach (e :: es) X.env = (false, eval e X.env) :: starEach es X.env := by rfl) (hpl : (backTo pos (starEach es X.env)).any (·.1) = false := by rfl) : EX c X (.Call (.Name x p) (e :: es) [] pos) (tCB r tA) ρ (ml >>= f) :=
  ex_callR (fun hA => pe_callB hc hg hm hb hA hn hdb he hpl) hv h
theorem x_ty {x : Str} {T : String} {r : List V → Hp → VK → Prop} {f : List Val → Res Val} (hc : CallR X (.type T) r) (hv : CallV c r f) (hg : Gl X x) (hm : X.mg x = none) (hb : bootBuiltins x = some (.type T)) (h : EA c X (e :: es) tA ρ ml) (hn : x ≠ "__name__" := by decide) (hdb : (x == ("__debug__" : Str)) = false := by decide)
    (he : starEach (e :: es) X.env = (false, eval e X.env) :: starEach es X.env := by rfl) (hpl : (backTo pos (starEach es X.env)).any (·.1) = false := by rfl) : EX c X (.Call (.Name x p) (e :: es) [] pos) (tCB r tA) ρ (ml >>= f) :=
  ex_callR (fun hA => pe_callTy hc hg hm hb hA hn hdb he hpl) hv h
/-- a function of math by its module's name -/
theorem x_fun {x : Str} {id : String} {r : List V → Hp → VK → Prop} {f : List Val → Res Val} (hc : CallR X (.builtin id) r) (hv : CallV c r f) (hg : Gl X x) (hm : X.mg x = some (.builtin id)) (h : EA c X (e :: es) tA ρ ml) (hdb : (x == ("__debug__" : Str)) = false := by decide)
    (he : starEach (e :: es) X.env = (false, eval e X.env) :: starEach es X.env := by rfl) (hpl : (backTo pos (starEach es X.env)).any (·.1) = false := by rfl) : EX c X (.Call (.Name x p) (e :: es) [] pos) (tCB r tA) ρ (ml >>= f) :=
  ex_callR (fun hA => pe_callBfun hc hg hm hA hdb he hpl) hv h
/-- what is known of an own def -/
structure Df (X : Cx) (x : Str) (j : Nat) (f : Addr) (fd : FuncData) (ps : List Str) (sp : Sp) : Prop where
  ok : FnOk X.prog X.w X.K X.mg X.base (L2.CX X.prog X.w) j f fd ps sp
  room : Room j X.A
  mg : X.mg x = some (.ref f)
  kp : PySem.W.keepIn X.K (.ref f) = true
  bd : Binds X.K fd ps []
theorem x_call {x : Str} {j n : Nat} {f : Addr} {fd : FuncData} {ps : List Str} {mm : List Val → Res Val} (d : Df X x j f fd ps (spM c.G n mm)) (hx : Passes (L2.CX X.prog X.w) X c.E) (hg : Gl X x) (h : EA c X (e :: es) tA ρ ml) (hn : ∀ xs, ml = .ok xs → xs.length = n) (hdb : (x == ("__debug__" : Str)) = false := by decide)
    (he : starEach (e :: es) X.env = (false, eval e X.env) :: starEach es X.env := by rfl) (hpl : (backTo pos (starEach es X.env)).any (·.1) = false := by rfl) : EX c X (.Call (.Name x p) (e :: es) [] pos) (tCall (spM c.G n mm) [] c.E tA) ρ (ml >>= mm) :=
  ex_call (fun hA => pe_call d.ok d.room hg d.mg d.kp d.bd .nil hx hA hdb he hpl) h hn
theorem len_nil : ∀ xs : List Val, (.ok [] : Res (List Val)) = .ok xs → xs.length = 0 := fun xs h => by cases h; rfl
theorem len_cons {n : Nat} (h : ∀ xs, ml = .ok xs → xs.length = n) : ∀ xs, consR m ml = .ok xs → xs.length = n + 1 := fun xs e => by
  cases m with
  | ok x =>
    cases ml with
    | ok ys => cases e; simp [h ys rfl]
    | err e2 => cases e
    | no => cases e
  | err e2 => cases e
  | no => cases e
end
end Mir
namespace Mir
open PySem PySem.Spec PyProof.Rows L2

/-! ### operators of ints and of own objects alike -/
theorem op_or {X : Cx} {f : Value → Value → Sem Value} {r r' : R2} (h : OpR X f r) (h' : OpR X f r') : OpR X f (fun x y H Q => r x y H Q ∨ r' x y H Q) :=
  fun pins s σ H x y v u Q I rx ry q => q.elim (h pins s σ H x y v u Q I rx ry) (h' pins s σ H x y v u Q I rx ry)
/-- fi: of ints; mo: the own def; mr: the own reflected def -/
def gop (k : Nat) (fi : Val → Val → Res Val) (mo mr : List Val → Res Val) : Val → Val → Res Val
  | .obj c fs, .obj d gs => if c = k ∧ d = k then mo [.obj c fs, .obj d gs] else .no
  | .obj c fs, .int i => if c = k then mo [.obj c fs, .int i] else .no
  | .int i, .obj d gs => if d = k then mr [.obj d gs, .int i] else .no
  | x, y => fi x y
section
variable {c : Cxt} {X : Cx}
theorem gop_int {k : Nat} {fi : Val → Val → Res Val} {mo mr : List Val → Res Val} {a b : Int} : gop k fi mo mr (.int a) (.int b) = fi (.int a) (.int b) := rfl
theorem gop_oo {k : Nat} {fi : Val → Val → Res Val} {mo mr : List Val → Res Val} {a b : List Val} : gop k fi mo mr (.obj k a) (.obj k b) = mo [.obj k a, .obj k b] := by simp [gop]
theorem gop_oi {k : Nat} {fi : Val → Val → Res Val} {mo mr : List Val → Res Val} {a : List Val} {i : Int} : gop k fi mo mr (.obj k a) (.int i) = mo [.obj k a, .int i] := by simp [gop]
theorem gop_io {k : Nat} {fi : Val → Val → Res Val} {mo mr : List Val → Res Val} {a : List Val} {i : Int} : gop k fi mo mr (.int i) (.obj k a) = mr [.obj k a, .int i] := by simp [gop]
theorem spM2 {G : Glo} {F H : Hp} {mm : List Val → Res Val} {x y : Val} {v w : V} {E : XK} {Q : VK} (hs : Same F H) (rx : Rep G F x v) (ry : Rep G F y w) (p : PostX G E (Rep G) F H Q (mm [x, y])) : spM G 2 mm [v, w] H Q E :=
  ⟨F, [x, y], hs, RepL.cons rx (RepL.cons ry RepL.nil), rfl, p⟩
theorem spM1 {G : Glo} {F H : Hp} {mm : List Val → Res Val} {x : Val} {v : V} {E : XK} {Q : VK} (hs : Same F H) (rx : Rep G F x v) (p : PostX G E (Rep G) F H Q (mm [x])) : spM G 1 mm [v] H Q E :=
  ⟨F, [x], hs, RepL.cons rx RepL.nil, rfl, p⟩
theorem ov_gop {k : Nat} {ri : R2} {fi : Val → Val → Res Val} {mo mr : List Val → Res Val} (hi : OpV c ri fi) :
    OpV c (fun x y H Q => (ri x y H Q ∨ rOwn (c.G.cls k) (spM c.G 2 mo) c.E x y H Q) ∨ rROwn (c.G.cls k) (spM c.G 2 mr) c.E x y H Q) (gop k fi mo mr) := by
  intro x y v w F H Q hs rx ry p
  unfold gop at p
  split at p
  · split at p
    · rename_i hh
      obtain ⟨rfl, rfl⟩ := hh
      have rx0 := rx
      have ry0 := ry
      obtain ⟨a, dx, vs, rfl, hF, _⟩ := rep_obj rx
      obtain ⟨b, dy, ws, rfl, hF', _⟩ := rep_obj ry
      exact .inl (.inr ⟨a, dx, _, rfl, hs _ _ hF, .inl ⟨b, dy, _, rfl, hs _ _ hF'⟩, spM2 hs rx0 ry0 p⟩)
    · exact p.elim
  · split at p
    · rename_i hh
      subst hh
      have rx0 := rx
      have ry0 := ry
      obtain ⟨a, dx, vs, rfl, hF, _⟩ := rep_obj rx
      cases ry
      exact .inl (.inr ⟨a, dx, _, rfl, hs _ _ hF, .inr ⟨_, rfl⟩, spM2 (y := .int _) hs rx0 rfl p⟩)
    · exact p.elim
  · split at p
    · rename_i hh
      subst hh
      have ry0 := ry
      obtain ⟨b, dy, ws, rfl, hF', _⟩ := rep_obj ry
      cases rx
      exact .inr ⟨_, b, dy, _, rfl, rfl, hs _ _ hF', spM2 (y := .int _) hs ry0 rfl p⟩
    · exact p.elim
  · exact .inl (.inl (hi x y v w F H Q hs rx ry p))
/-- without a reflected def -/
def gun (k : Nat) (fi : Val → Res Val) (mo : List Val → Res Val) : Val → Res Val
  | .obj c fs => if c = k then mo [.obj c fs] else .no
  | x => fi x
theorem uv_gun {k : Nat} {ri : V → Hp → VK → Prop} {fi : Val → Res Val} {mo : List Val → Res Val} (hi : UnV c ri fi) : UnV c (fun x H Q => ri x H Q ∨ rNegOwn (c.G.cls k) (spM c.G 1 mo) c.E x H Q) (gun k fi mo) := by
  intro x v F H Q hs rx p
  unfold gun at p
  split at p
  · split at p
    · rename_i hh
      subst hh
      have rx0 := rx
      obtain ⟨a, dx, vs, rfl, hF, _⟩ := rep_obj rx
      exact .inr ⟨a, dx, _, rfl, hs _ _ hF, spM1 hs rx0 p⟩
    · exact p.elim
  · exact .inl (hi x v F H Q hs rx p)
theorem un_or {f : Value → Sem Value} {r r' : V → Hp → VK → Prop} (h : UnR X f r) (h' : UnR X f r') : UnR X f (fun x H Q => r x H Q ∨ r' x H Q) :=
  fun pins s σ H x v Q I rx q => q.elim (h pins s σ H x v Q I rx) (h' pins s σ H x v Q I rx)

/-! ### == and != of own objects -/
/-- x == y, x of the class at C, y of it too or an int -/
theorem op_eqOwn {CX : CXT} {k : Nat} {C f : Addr} {fd : FuncData} {ps : List Str} {sp : Sp} {E : XK} (hs : PySem.W.findIn X.K (.ref C) "__eq__" = some (some (.ref f))) (hf : PySem.W.isFn X.K (.ref f) = true) (hsub : PySem.W.subIn X.K (.type "int") (.ref C) = some false)
    (F : FnOk X.prog X.w X.K X.mg X.base CX k f fd ps sp) (hr : Room k X.A) (hu : X.A.units < cLine) (hb : Binds X.K fd ps []) (hx : Passes CX X E) : OpR X (compareOp .Eq) (rOwn C sp E) := by
  intro pins s σ H x y v u Q I rx ry h
  obtain ⟨a, dx, fs, rfl, ha, hy, hsp⟩ := h
  obtain rfl : v = Value.ref a := rx
  obtain ⟨mA, O, _⟩ := ins_get I.hok ha
  obtain ⟨od, J, _⟩ := O.look
  obtain ⟨m, hF⟩ := I.fr
  show wpAny (model X.prog X.w) X.A (richCompare .Eq _ u) (EP X pins σ Q) X.xe s
  rcases hy with ⟨b, dy, gs, rfl, hb'⟩ | ⟨i, rfl⟩
  · obtain rfl : u = Value.ref b := ry
    obtain ⟨mB, O', _⟩ := ins_get I.hok hb'
    obtain ⟨od', J', _⟩ := O'.look
    refine PySem.W.cmp_K (op := .Eq) (tb := .ref C) hu hF I.ok.mod.kin J J'.type (by simp [PySem.W.notFirst]) hs hf ?_
    exact thn (run_fn (us := [.ref a, .ref b]) (vs := [.ref a, .ref b]) F hr hb .nil hx I (.cons rfl (.cons rfl .nil)) hsp) fun _ _ q => back_of q
  · obtain ⟨t, rfl⟩ := ry
    refine PySem.W.cmp_K (op := .Eq) (tb := .type "int") hu hF I.ok.mod.kin J (PySem.W.Looks.of_pure rfl) (by simp [PySem.W.notFirst, hsub]) hs hf ?_
    exact thn (run_fn (us := [.ref a, .int i t]) (vs := [.ref a, .int i]) F hr hb .nil hx I (.cons rfl (.cons ⟨t, rfl⟩ .nil)) hsp) fun _ _ q => back_of q
end
/-! != : object.__ne__ asks the own == -/
theorem ifBoundB_K {K : PySem.W.Frag} {A : Around} {E : Value → Shared → Prop} {s : Shared} {x C : Addr} {ox : Obj} {od : Option Obj} {name : Str} {id : String} {M : Model} {args : List Value} {Q : Option Value → Shared → Prop} (X : K.In s.heap) (I : PySem.W.InstAt s.heap x ox C od) (hs : PySem.W.findIn K (.ref C) name = some (some (.builtin id)))
    (hb : bindSpecial (.builtin id) (.ref x) = pure (.builtin id, [.ref x])) (h : wpAny M A (call (.builtin id) (.ref x :: args)) (fun v => Q (some v)) E s) : wpAny M A (callSpecialIfBound? (.ref x) name args) Q E s := by
  simp only [callSpecialIfBound?, bindSpecialIfBound?]
  refine wpAny_holding (wpAny_bind (wpAny_bind (wpAny_bind (I.type.here ((PySem.W.looks_findIn X hs).here ?_)))))
  refine wpAny_bind (wpAny_askSetting (wpAny_ite ?_))
  have fin : wpAny M A (call (.builtin id) ([.ref x] ++ args) >>= fun v => pure (some v)) Q E s := wpAny_bind (wpAny_mono h (fun v s' h' => wpAny_pure h') fun _ _ h' => h')
  simp only [hb]
  split
  · exact wpAny_bind (wpAny_pure (wpAny_pure (by exact fin)))
  · exact wpAny_tryCatch (wpAny_bind (wpAny_pure (wpAny_pure (by exact fin))))
theorem objNe_K {M : Model} {K : PySem.W.Frag} {A : Around} {E : Value → Shared → Prop} {s : Shared} {x C f : Addr} {ox : Obj} {od : Option Obj} {b : Value} {Q : PySem.Fin → Shared → Prop} (hu : A.units < cLine) (X : K.In s.heap) (I : PySem.W.InstAt s.heap x ox C od)
    (hs : PySem.W.findIn K (.ref C) "__eq__" = some (some (.ref f))) (hf : PySem.W.isFn K (.ref f) = true)
    (h : wpAny M A (call (.ref f) [.ref x, b]) (fun v s' => ∃ k, v = .bool k ∧ Q (.done (.ret (.bool (!k)))) s') E s) : wpAny M A (Builtin.«object.__ne__» ⟨[.ref x, b], []⟩) Q E s := by
  obtain ⟨hp, g, d, t, os⟩ := s
  unfold Builtin.«object.__ne__»
  repeat (first
    | with_reducible refine wpAny_cRoomFor hu ?_
    | (refine wpAny_bind (m := callSpecialIfBound? (.ref x) (Str.ofString "__eq__") [b])
        (PySem.W.ifBound_K X I hs hf (wpAny_mono h (fun r s' hr => by
          obtain ⟨k, rfl, hq⟩ := hr
          repeat (first | exact hq | exact wpAny_pure hq | exact wpAny_truthy_bool hq | (refine wpAny_bind (m := truthy (.bool _)) (wpAny_truthy_bool ?_)) | wp_step)) fun _ _ e => e)))
    | wp_step)
theorem ne_K {prog : Program} {w : World} {A : Around} {E : Value → Shared → Prop} {s : Shared} {K : PySem.W.Frag} {x C L f : Addr} {h₀ : Heap} {m : Str → Option Value} {ox : Obj} {od : Option Obj} {b tb : Value} {Q : Value → Shared → Prop} (hu : A.units + 1 < cLine) (F : Fr h₀ L s.heap m) (X₀ : K.In h₀) (I : PySem.W.InstAt s.heap x ox C od) (hb : PySem.W.Looks (model prog w) s.heap (typeOf b) tb) (hn : PySem.W.notFirst K C tb = true)
    (hne : PySem.W.findIn K (.ref C) "__ne__" = some (some (.builtin "object.__ne__"))) (hso : PySem.W.subIn K (.ref C) (.type "object") = some true)
    (hs : PySem.W.findIn K (.ref C) "__eq__" = some (some (.ref f))) (hf : PySem.W.isFn K (.ref f) = true)
    (h : wpAny (model prog w) A.in1 (call (.ref f) [.ref x, b]) (fun v s' => ∃ k, v = .bool k ∧ Q (.bool (!k)) s') E s) : wpAny (model prog w) A (richCompare .NotEq (.ref x) b) Q E s := by
  have X := X₀.keeps F.keep
  have one : wpAny (model prog w) A (tryCompare (.ref x) "__ne__" b) (fun r s' => ∃ v, r = some v ∧ Q v s') E s := by
    unfold tryCompare
    refine wpAny_bind (ifBoundB_K X I hne (PySem.F.cmp_object.ne.bind _) (wpAny_call (codeAny_call_builtin PySem.F.cmp_object.ne.plain PySem.F.cmpEntry_ne ?_)))
    have ha : argsOk "object.__ne__" ⟨[.ref x, b], []⟩ := PySem.F.cmpArgs_ne _ _
    simp only [checkBuiltinCall, PySem.F.cmpKind_ne, PySem.F.cmpSplit_ne]
    refine wpAny_bind (wpAny_bind ?_)
    refine I.type.here ((PySem.W.looks_subIn X hso).here ?_)
    simp only [Bool.not_true, Bool.false_eq_true, if_false]
    have rest : ∀ (Q' : Unit → Shared → Prop) (E' : Value → Shared → Prop), Q' () s → wpAny (model prog w) A.in1 (match Manifest.signature? "object.__ne__" with | some sig => Bind.checkArgs "object.__ne__" sig ⟨[.ref x, b], []⟩ | x => pure ()) Q' E' s := by
      intro Q' E' q
      cases hsig : Manifest.signature? "object.__ne__" with
      | none => exact wpAny_pure q
      | some sig =>
        simp only [argsOk, hsig] at ha
        have h2 : Bind.checkArgs "object.__ne__" sig ⟨[.ref x, b], []⟩ = pure () := ha
        show wpAny _ _ (Bind.checkArgs "object.__ne__" sig ⟨[.ref x, b], []⟩) Q' E' _
        rw [h2]; exact wpAny_pure q
    refine rest _ _ ?_
    refine objNe_K hu X I hs hf (wpAny_mono h (fun v s' hv => ?_) fun _ _ e => e)
    obtain ⟨k, rfl, hq⟩ := hv
    first | exact ⟨k, rfl, wpAny_pure ⟨_, rfl, hq⟩⟩ | exact ⟨k, rfl, wpAny_pure (wpAny_pure ⟨_, rfl, hq⟩)⟩
  unfold richCompare
  simp only [oneThing_ref]
  refine wpAny_holding (wpAny_bind (wpAny_cRoomFor (Nat.lt_of_succ_lt hu) ?_))
  refine wpAny_bind (I.type.here (wpAny_bind (hb.here ?_)))
  split
  · rename_i q
    have e : PySem.W.subIn K tb (.ref C) = some false := by
      rcases Bool.or_eq_true_iff.mp hn with e | e
      · rw [beq_iff_eq.mp e] at q; simp at q
      · exact beq_iff_eq.mp e
    refine wpAny_bind ((PySem.W.looks_subIn X e).here ?_)
    simp only [Bool.false_eq_true, if_false]
    refine wpAny_bind (wpAny_mono one (fun r s' z => ?_) fun _ _ e => e)
    obtain ⟨v, rfl, hq⟩ := z
    exact wpAny_pure hq
  · refine wpAny_bind (wpAny_pure ?_)
    simp only [Bool.false_eq_true, if_false]
    refine wpAny_bind (wpAny_mono one (fun r s' z => ?_) fun _ _ e => e)
    obtain ⟨v, rfl, hq⟩ := z
    exact wpAny_pure hq
def rOwnNe (C : Addr) (sp : Sp) (E : XK) : R2 := fun x y H Q => ∃ a dx fs, x = .ref a ∧ H a = some (.ins C dx fs) ∧ ((∃ b dy gs, y = .ref b ∧ H b = some (.ins C dy gs)) ∨ ∃ i, y = .int i) ∧ sp [x, y] H (fun v H' => ∃ k, v = .bl k ∧ Q (.bl (!k)) H') E
section
variable {X : Cx} {c : Cxt}
theorem op_neOwn {CX : CXT} {k : Nat} {C f : Addr} {fd : FuncData} {ps : List Str} {sp : Sp} {E : XK} (hne : PySem.W.findIn X.K (.ref C) "__ne__" = some (some (.builtin "object.__ne__"))) (hso : PySem.W.subIn X.K (.ref C) (.type "object") = some true) (hs : PySem.W.findIn X.K (.ref C) "__eq__" = some (some (.ref f))) (hf : PySem.W.isFn X.K (.ref f) = true) (hsub : PySem.W.subIn X.K (.type "int") (.ref C) = some false)
    (F : FnOk X.prog X.w X.K X.mg X.base CX k f fd ps sp) (hr : Room (k + 1) X.A) (hb : Binds X.K fd ps []) (hx : Passes CX X E) : OpR X (compareOp .NotEq) (rOwnNe C sp E) := by
  intro pins s σ H x y v u Q I rx ry h
  obtain ⟨a, dx, fs, rfl, ha, hy, hsp⟩ := h
  obtain rfl : v = Value.ref a := rx
  obtain ⟨mA, O, _⟩ := ins_get I.hok ha
  obtain ⟨od, J, _⟩ := O.look
  obtain ⟨m, hF⟩ := I.fr
  have e0 : Env0 X.prog X.w X.K X.mg X.base X.A.in1 X.stack s H := by
    have e := I.env0
    exact ⟨e.frames, e.mod, e.bs, e.bsz, e.funs, e.frf, e.hok, e.bare⟩
  have run : ∀ (w : Value), Vals [V.ref a, y] [Value.ref a, w] → wpAny (model X.prog X.w) X.A.in1 (call (.ref f) [.ref a, w]) (fun v s' => ∃ k, v = .bool k ∧ EP X pins σ Q (.bool (!k)) s') X.xe s := by
    intro w r2
    have hl := F.len _ _ _ _ hsp
    refine wpAny_call (codeAny_mono (F.run X.A.in1 X.stack s H ⟨[.ref a, w], []⟩ [.ref a, w] [.ref a, y] _ E hr.in1 e0 (by
      have := hb s [.ref a, w] I.kIn (by simpa using hl)
      simpa using this) r2 hsp) fun r s' hq => ?_)
    cases r with
    | error e => exact hx pins σ H s e s' I hq
    | ok fl =>
      cases fl with
      | ret w =>
        obtain ⟨z, H', I', rz, k, ez, q⟩ := I.after hq
        subst ez
        cases rz
        exact ⟨k, rfl, V.bl (!k), H', I', rfl, q⟩
      | next => exact False.elim hq
      | brk => exact False.elim hq
      | cont => exact False.elim hq
  show wpAny (model X.prog X.w) X.A (richCompare .NotEq _ u) (EP X pins σ Q) X.xe s
  rcases hy with ⟨b, dy, gs, rfl, hb'⟩ | ⟨i, rfl⟩
  · obtain rfl : u = Value.ref b := ry
    obtain ⟨mB, O', _⟩ := ins_get I.hok hb'
    obtain ⟨od', J', _⟩ := O'.look
    exact ne_K (tb := .ref C) (by have := hr.units; omega) hF I.ok.mod.kin J J'.type (by simp [PySem.W.notFirst]) hne hso hs hf (run _ (.cons rfl (.cons rfl .nil)))
  · obtain ⟨t, rfl⟩ := ry
    exact ne_K (tb := .type "int") (by have := hr.units; omega) hF I.ok.mod.kin J (PySem.W.Looks.of_pure rfl) (by simp [PySem.W.notFirst, hsub]) hne hso hs hf (run _ (.cons rfl (.cons ⟨t, rfl⟩ .nil)))
/-- ==, != of flat values, of own objects -/
def geq (k : Nat) (mo : List Val → Res Val) : Val → Val → Res Val := gop k seq mo fun _ => .no
def gne (k : Nat) (mo : List Val → Res Val) : Val → Val → Res Val := gop k sne (fun xs => notV (mo xs)) fun _ => .no
theorem ov_geq {k : Nat} {mo : List Val → Res Val} : OpV c (fun x y H Q => rEq x y H Q ∨ rOwn (c.G.cls k) (spM c.G 2 mo) c.E x y H Q) (geq k mo) := by
  intro x y v w F H Q hs rx ry p
  rcases ov_gop (mo := mo) (mr := fun _ => .no) (k := k) ov_eq x y v w F H Q hs rx ry p with (h | h) | h
  · exact .inl h
  · exact .inr h
  · obtain ⟨i, b, dy, gs, _, _, _, F', xs, _, _, _, hp⟩ := h
    exact hp.elim
theorem post_notV {F H : Hp} {Q : VK} {m : Res Val} (p : PostV c F H Q (notV m)) : PostV c F H (fun v H' => ∃ k, v = .bl k ∧ Q (.bl (!k)) H') m := by
  cases m with
  | err e => exact p
  | no => exact p
  | ok x =>
    intro v F1 H1 g r
    cases x with
    | bl k =>
      cases r
      exact ⟨k, rfl, (PostX.grow g p : PostV c F1 H1 Q (.ok (.bl (!k)))).done g.fh rfl⟩
    | _ => exact p.elim
theorem ov_gne {k : Nat} {mo : List Val → Res Val} : OpV c (fun x y H Q => rNe x y H Q ∨ rOwnNe (c.G.cls k) (spM c.G 2 mo) c.E x y H Q) (gne k mo) := by
  intro x y v w F H Q hs rx ry p
  rcases ov_gop (mo := fun xs => notV (mo xs)) (mr := fun _ => .no) (k := k) ov_ne x y v w F H Q hs rx ry p with (h | h) | h
  · exact .inl h
  · obtain ⟨a, dx, fs, e1, e2, e3, F', xs, hF, rl, hn, hp⟩ := h
    exact .inr ⟨a, dx, fs, e1, e2, e3, F', xs, hF, rl, hn, post_notV hp⟩
  · obtain ⟨i, b, dy, gs, _, _, _, F', xs, _, _, _, hp⟩ := h
    exact hp.elim
end
end Mir
namespace Mir
open PySem PySem.Spec PyProof.Rows L2

/-! ### keywords, defaults -/
/-- the parameters' values by places in what is written and the defaults -/
def pick {α : Type} (p : List Nat) (l : List α) : List α := p.filterMap fun i => l[i]?
theorem RepL.pick {G : Glo} {F : Hp} {xs : List Val} {vs : List V} (r : RepL G F xs vs) : ∀ p : List Nat, RepL G F (Mir.pick p xs) (Mir.pick p vs)
  | [] => RepL.nil
  | i :: p => by
    unfold Mir.pick
    simp only [List.filterMap_cons]
    cases h : xs[i]? with
    | none =>
      have : vs[i]? = none := by
        rw [List.getElem?_eq_none_iff] at h ⊢
        rw [r.length]; exact h
      rw [this]
      exact RepL.pick r p
    | some x =>
      obtain ⟨v, hv, rv⟩ := r.get h
      rw [hv]
      exact RepL.cons rv (RepL.pick r p)
theorem vals_pick {vs : List V} {us : List Value} (r : Vals vs us) : ∀ p : List Nat, Vals (pick p vs) (pick p us)
  | [] => .nil
  | i :: p => by
    unfold pick
    simp only [List.filterMap_cons]
    cases h : vs[i]? with
    | none =>
      have : us[i]? = none := by
        rw [List.getElem?_eq_none_iff] at h ⊢
        rw [← r.length]; exact h
      rw [this]
      exact vals_pick r p
    | some x =>
      obtain ⟨v, hv, rv⟩ := r.get h
      rw [hv]
      exact .cons rv (vals_pick r p)
/-- how a call binds: n by place, ks by name, dvs the defaults; p: the places of the parameters' values among all these -/
def Bnd (K : PySem.W.Frag) (fd : FuncData) (ps : List Str) (n : Nat) (ks : List Str) (p : List Nat) (dvs : List V) : Prop := ∃ g, KBn K fd ps n ks g (fun vs zs => pick p (vs ++ zs ++ dvs))
section
variable {K : PySem.W.Frag} {x qual : Str} {params : Arguments} {body : List Stmt} {scope : Scope} {dvs : List V} {f : Addr} {fd : FuncData} {ps : List Str}
/-- no defaults -/
theorem bnd_plain (F : FunD K x qual params body scope [] [] f fd) (n : Nat) (ks : List Str) (p : List Nat)
    (h : ∀ (kV doc pm : Value) (an : Option Addr) (cdv ct : Value) (us ws : List Value), us.length = n → ws.length = ks.length → bindArgs (PySem.W.fnOf x qual params body scope .none kV doc pm an cdv ct) ⟨us, ks.zip ws⟩ = pure (ps.zip (pick p (us ++ ws)))) : Bnd K fd ps n ks p [] := by
  obtain ⟨oc, od, dV, kV, doc, pm, an, cdv, ct, osl, rfl, lk, hcd, hD, hK⟩ := F.ex
  rcases hD with ⟨_, rfl⟩ | ⟨e, _⟩
  · refine ⟨fun us ws => pick p (us ++ ws), fun s us ws _ l1 l2 => .of_eq (h kV doc pm an cdv ct us ws l1 l2), fun r1 r2 => ?_⟩
    rw [List.append_nil]
    exact vals_pick (r1.append r2) p
  · exact absurd rfl e
/-- with defaults -/
theorem bnd_dflt (F : FunD K x qual params body scope dvs [] f fd) (n : Nat) (ks : List Str) (p : List Nat) (hd : dvs ≠ [])
    (h : ∀ (T : Addr) (kV doc pm : Value) (an : Option Addr) (cdv ct : Value) (us its ws : List Value), us.length = n → its.length = dvs.length → ws.length = ks.length →
      ∃ k, bindArgs (PySem.W.fnOf x qual params body scope (.ref T) kV doc pm an cdv ct) ⟨us, ks.zip ws⟩ = seqItems? (.ref T) >>= k ∧ k (some its.toArray) = pure (ps.zip (pick p (us ++ ws ++ its)))) : Bnd K fd ps n ks p dvs := by
  obtain ⟨its, b⟩ := F.kbindsD (ps := ps) n ks (fun us its ws => pick p (us ++ ws ++ its)) hd (fun r1 r2 r3 => vals_pick ((r1.append r3).append r2) p) h
  exact ⟨_, b⟩
end

/-- keywords' values -/
structure EK (c : Cxt) (X : Cx) (kws : List Keyword) (t : TA) (ρ : Ros) (m : Res (List Val)) : Prop where
  pk : PK X kws t
  ev : ∀ σ F H Q, At c F H σ ρ → PostA c F H Q m → t σ H Q
/-- .. and places' -/
structure AP2 (X : Cx) (pos : Pos) (es : List Expr) (kws : List Keyword) (ks : List Str) (tA : TA) : Prop where
  hst : (es = [] ∧ tA = tNil) ∨ ∃ e r, es = e :: r ∧ starEach (e :: r) X.env = (false, eval e X.env) :: starEach r X.env
  hall : (backToKw pos (keywordEach kws X.env)).all (·.1.isSome) = true
  hks : (backToKw pos (keywordEach kws X.env)).filterMap (·.1) = ks
  hpl : ((backTo pos (starEach es X.env)).any (·.1) || (backToKw pos (keywordEach kws X.env)).any (·.1.isNone)) = false
section
variable {c : Cxt} {X : Cx} {e a b : Expr} {es : List Expr} {kws : List Keyword} {ks : List Str} {ta tb te : TE} {tA tK : TA} {ρ : Ros} {m : Res Val} {ml mk : Res (List Val)} {pos kpos : Pos} {nm : Option Str}
theorem ek_nil : EK c X [] tNil ρ (.ok []) := ⟨pk_nil, fun σ F H Q s p => p.done s.sub RepL.nil⟩
theorem ek_cons (h : EX c X e te ρ m) (hr : EK c X kws tK ρ mk) : EK c X (⟨nm, e, kpos⟩ :: kws) (tCons te tK) ρ (consR m mk) := by
  refine ⟨pk_cons h.pe hr.pk, fun σ F H Q s p => h.ev σ F H _ s ?_⟩
  unfold consR at p
  cases m with
  | err e => exact p
  | no => exact p
  | ok x =>
    intro v F1 H1 g1 r1
    have p1 : PostA c F1 H1 Q (mk >>= fun xs => .ok (x :: xs)) := PostX.grow g1 p
    refine hr.ev σ F1 H1 _ (s.grow g1) ?_
    cases mk with
    | err e => exact p1
    | no => exact p1
    | ok xs => exact fun vs F2 H2 g2 r2 => p1 (v :: vs) F2 H2 g2 (RepL.cons (r1.mono g2.ff) r2)
/-- the arguments of a call are worked out, f is called -/
theorem callwith_any {pins : List (Addr × Obj)} {σ : L2.St} {H : Hp} {s : Shared} {f : Value} {first : List Value} {P : Heap → Prop} {Q : Value → Shared → Prop} {r : List V → List V → Hp → Prop} (ap : AP2 X pos es kws ks tA) (ha : PA X es tA) (hkw : PK X kws tK)
    (hk : ∀ h, P h → ∃ k, (k = Keeper.frame ∨ k = Keeper.machine ∨ k = Keeper.boundFrame) ∧ PySem.W.Looks (model X.prog X.w) h (keeperOf f) k) (I : Inv X pins σ H s) (h : tA σ H fun vs H1 => tK σ H1 fun zs H2 => r vs zs H2)
    (fin : ∀ us ws vs zs s2 H2, Inv X pins σ H2 s2 → Vals vs us → Vals zs ws → r vs zs H2 → P s2.heap ∧ wpAny (model X.prog X.w) X.A (call f (first ++ us) (ks.zip ws)) Q X.xe s2) :
    wpAny (model X.prog X.w) X.A (callWith pos f first (backTo pos (starEach es X.env)) (backToKw pos (keywordEach kws X.env))) Q X.xe s := by
  refine PySem.W.callWith_of ap.hpl hk ?_
  have hks := ap.hks
  rcases ap.hst with ⟨rfl, rfl⟩ | ⟨e, rest, rfl, he⟩
  · refine evalArgs_kw2_nil ap.hall (thn (hkw.run pos pins s σ H _ I h) fun ws s2 ⟨zs, H2, I2, rz, q2⟩ => ?_)
    rw [hks]
    exact fin [] ws [] zs s2 H2 I2 .nil rz q2
  · refine evalArgs_kw2 ap.hall (thn (ha.run pos pins s σ H _ I h) fun us s1 ⟨vs, H1, I1, r1, q⟩ => ?_) he
    refine thn (hkw.run pos pins s1 σ H1 _ I1 q) fun ws s2 ⟨zs, H2, I2, rz, q2⟩ => ?_
    rw [hks]
    exact fin us ws vs zs s2 H2 I2 r1 rz q2
theorem kF {K : PySem.W.Frag} {P : Program} {w : World} {f : Value} (hk : PySem.W.keepIn K f = true) : ∀ h, K.In h → ∃ k, (k = Keeper.frame ∨ k = Keeper.machine ∨ k = Keeper.boundFrame) ∧ PySem.W.Looks (model P w) h (keeperOf f) k := fun h X => PySem.W.keeps_K hk h X
/-- the two lists of arguments, then what is called -/
def callM (mxs mys : Res (List Val)) (p : List Nat) (ds : List Val) (mm : List Val → Res Val) : Res Val := mxs >>= fun xs => mys >>= fun ys => mm (pick p (xs ++ ys ++ ds))
@[simp] theorem callM_ok {xs ys ds : List Val} {p : List Nat} {mm : List Val → Res Val} : callM (.ok xs) (.ok ys) p ds mm = mm (pick p (xs ++ ys ++ ds)) := rfl
/-- reading of both -/
theorem args2 {F H : Hp} {σ : L2.St} {Q : VK} {r : List V → List V → Hp → Prop} {fz : List Val → List Val → Res Val} {n m : Nat} (h : EA c X es tA ρ ml) (h2 : EK c X kws tK ρ mk) (hn : ∀ xs, ml = .ok xs → xs.length = n) (hm : ∀ xs, mk = .ok xs → xs.length = m) (s : At c F H σ ρ) (po : PostV c F H Q (ml >>= fun xs => mk >>= fun ys => fz xs ys))
    (fin : ∀ xs ys vs zs F2 H2, Grow F H F2 H2 → RepL c.G F2 xs vs → RepL c.G F2 ys zs → vs.length = n → zs.length = m → PostV c F2 H2 Q (fz xs ys) → r vs zs H2) : tA σ H fun vs H1 => tK σ H1 fun zs H2 => r vs zs H2 := by
  refine h.ev σ F H _ s ?_
  cases ml with
  | err e => exact po
  | no => exact po
  | ok xs =>
    intro vs F1 H1 g1 r1
    have p1 : PostV c F1 H1 Q (mk >>= fun ys => fz xs ys) := PostX.grow g1 po
    refine h2.ev σ F1 H1 _ (s.grow g1) ?_
    cases mk with
    | err e => exact p1
    | no => exact p1
    | ok ys => exact fun zs F2 H2 g2 r2 => fin xs ys vs zs F2 H2 (g1.trans g2) (r1.mono g2.ff) r2 (by rw [r1.length]; exact hn xs rfl) (by rw [r2.length]; exact hm ys rfl) (PostX.grow g2 p1)
variable {x mn : Str} {j n nn : Nat} {f C : Addr} {fd : FuncData} {ps : List Str} {mm : List Val → Res Val} {p : List Nat} {ds : List Val} {dvs : List V} {po apos : Pos} {o : Expr} {k : Nat} {mi : List Val → Res (List Val)}
/-- what is known of an own def, of its binding here -/
structure DfP (X : Cx) (j : Nat) (f : Addr) (fd : FuncData) (ps : List Str) (sp : Sp) (n : Nat) (ks : List Str) (p : List Nat) (dvs : List V) : Prop where
  ok : FnOk X.prog X.w X.K X.mg X.base (L2.CX X.prog X.w) j f fd ps sp
  room : Room j X.A
  bd : Bnd X.K fd ps n ks p dvs
theorem spP {F H : Hp} {xs ys : List Val} {vs zs : List V} {E : XK} {Q : VK} (hs : Same F H) (r1 : RepL c.G F xs vs) (r2 : RepL c.G F ys zs) (hd : ∀ F, RepL c.G F ds dvs) (hl : (pick p (vs ++ zs ++ dvs)).length = nn) (q : PostX c.G E (Rep c.G) F H Q (mm (pick p (xs ++ ys ++ ds)))) : spM c.G nn mm (pick p (vs ++ zs ++ dvs)) H Q E :=
  ⟨F, _, hs, ((r1.append r2).append (hd F)).pick p, hl, q⟩
/-- f(..) -/
theorem x_fnP (d : DfP X j f fd ps (spM c.G nn mm) n ks p dvs) (hx : Passes (L2.CX X.prog X.w) X c.E) (hg : Gl X x) (hmg : X.mg x = some (.ref f)) (hkp : PySem.W.keepIn X.K (.ref f) = true) (h : EA c X es tA ρ ml) (h2 : EK c X kws tK ρ mk) (hd : ∀ F, RepL c.G F ds dvs) (ap : AP2 X pos es kws ks tA)
    (hn : ∀ xs, ml = .ok xs → xs.length = n) (hm : ∀ xs, mk = .ok xs → xs.length = ks.length) (hl : ∀ vs zs : List V, vs.length = n → zs.length = ks.length → (pick p (vs ++ zs ++ dvs)).length = nn) (hdb : (x == ("__debug__" : Str)) = false := by decide) :
    EX c X (.Call (.Name x po) es kws pos) (tCallN n ks.length (spM c.G nn mm) (fun vs zs => pick p (vs ++ zs ++ dvs)) c.E tA tK) ρ (callM ml mk p ds mm) := by
  obtain ⟨g, kb⟩ := d.bd
  refine ⟨⟨fun pins s σ H Q I h0 => ?_⟩, fun σ F H Q s q => ?_⟩
  · refine wpAny_Call_Name_kw (ld_glob I hg hmg ?_ hdb)
    exact callwith_any ap h.pa h2.pk (kF (P := X.prog) (w := X.w) hkp) I h0 fun us ws vs zs s2 H2 I2 r1 r2 ⟨l1, l2, q2⟩ => ⟨I2.kIn, run_fnN d.ok d.room kb hx I2 r1 r2 l1 l2 q2⟩
  · exact args2 h h2 hn hm s q fun xs ys vs zs F2 H2 g r1 r2 l1 l2 q2 => ⟨l1, l2, spP g.fh r1 r2 hd (hl vs zs l1 l2) q2⟩
/-- the same behind an object -/
theorem spP1 {F H : Hp} {x0 : Val} {v0 : V} {xs ys : List Val} {vs zs : List V} {E : XK} {Q : VK} (hs : Same F H) (r0 : Rep c.G F x0 v0) (r1 : RepL c.G F xs vs) (r2 : RepL c.G F ys zs) (hd : ∀ F, RepL c.G F ds dvs) (hl : (pick p (v0 :: vs ++ zs ++ dvs)).length = nn) (q : PostX c.G E (Rep c.G) F H Q (mm (pick p (x0 :: xs ++ ys ++ ds)))) : spM c.G nn mm (pick p (v0 :: vs ++ zs ++ dvs)) H Q E :=
  ⟨F, _, hs, (((RepL.cons r0 r1).append r2).append (hd F)).pick p, hl, q⟩
/-- an object, its method's arguments -/
def methM (k : Nat) (m : Res Val) (ml mk : Res (List Val)) (p : List Nat) (ds : List Val) (mm : List Val → Res Val) : Res Val := m >>= fun x => onObj k (fun _ => ml >>= fun xs => mk >>= fun ys => mm (pick p (x :: xs ++ ys ++ ds))) x
theorem methM_ok {k : Nat} {fs xs ys ds : List Val} {p : List Nat} {mm : List Val → Res Val} : methM k (.ok (.obj k fs)) (.ok xs) (.ok ys) p ds mm = mm (pick p (.obj k fs :: xs ++ ys ++ ds)) := by simp [methM]
def tMethP (C : Addr) (m : Str) (n k : Nat) (sp : Sp) (gV : List V → List V → List V) (E : XK) (ta : TE) (t tk : TA) : TE := fun σ H Q => ta σ H fun x H1 => ∃ a dx fs, x = .ref a ∧ H1 a = some (.ins C dx fs) ∧ fs.lookup m = none ∧
  t σ H1 fun vs H2 => tk σ H2 fun zs H3 => vs.length = n ∧ zs.length = k ∧ sp (gV (x :: vs) zs) H3 Q E
/-- o.m(..) -/
theorem x_methP {pl : Sem Bool} (ho : EX c X o ta ρ m) (hc : Cls X.K (c.G.cls k)) (hM : Meth X.K (c.G.cls k) mn f) (d : DfP X j f fd ps (spM c.G nn mm) (n + 1) ks p dvs) (hx : Passes (L2.CX X.prog X.w) X c.E) (h : EA c X es tA ρ ml) (h2 : EK c X kws tK ρ mk) (hd : ∀ F, RepL c.G F ds dvs) (ap : AP2 X pos es kws ks tA)
    (hf : mn ∉ c.G.flds k) (hn : ∀ xs, ml = .ok xs → xs.length = n) (hm : ∀ xs, mk = .ok xs → xs.length = ks.length) (hl : ∀ (v : V) (vs zs : List V), vs.length = n → zs.length = ks.length → (pick p (v :: vs ++ zs ++ dvs)).length = nn)
    (ht : eval (.Call (.Attribute o mn apos) es kws pos) X.env = (do
      let ov ← eval o X.env
      standAt apos.atName
      let (f, first) ← holding [ov] (getMethod ov mn pl)
      callWith pos f first (backTo pos (starEach es X.env)) (backToKw pos (keywordEach kws X.env))) := by rfl) :
    EX c X (.Call (.Attribute o mn apos) es kws pos) (tMethP (c.G.cls k) mn n ks.length (spM c.G nn mm) (fun vs zs => pick p (vs ++ zs ++ dvs)) c.E ta tA tK) ρ (methM k m ml mk p ds mm) := by
  obtain ⟨g, kb⟩ := d.bd
  refine ⟨⟨fun pins s σ H Q I h0 => ?_⟩, fun σ F H Q s q => ho.ev σ F H _ s ?_⟩
  · refine PySem.W.methodCall_KW (pl := pl) (thn (ho.pe.run pins s σ H _ I h0) fun u s1 ⟨x, H1, I1, rx, a, dx, fs, ex, ea, l, q⟩ => ?_) ht
    subst ex
    obtain rfl : u = Value.ref a := rx
    refine getmeth_ok I1 ea hc hM l ?_
    refine callwith_any (first := [.ref a]) ap h.pa h2.pk (kF (P := X.prog) (w := X.w) hM.kp) I1 q fun us ws vs zs s2 H2 I2 r1 r2 ⟨l1, l2, q2⟩ => ⟨I2.kIn, ?_⟩
    exact run_fnN (us := .ref a :: us) (vs := .ref a :: vs) d.ok d.room kb hx I2 (.cons rfl r1) r2 (congrArg Nat.succ l1) l2 q2
  · cases m with
    | err e => exact q
    | no => exact q
    | ok x =>
      intro v F1 H1 g1 r1
      have p1 : PostV c F1 H1 Q (onObj k (fun _ => ml >>= fun xs => mk >>= fun ys => mm (pick p (x :: xs ++ ys ++ ds))) x) := PostX.grow g1 q
      cases x with
      | obj c' fs =>
        simp only [onObj] at p1
        by_cases hc : c' = k
        · subst hc
          rw [if_pos rfl] at p1
          obtain ⟨b, dx, vs, rfl, hF, hl', rl⟩ := rep_obj r1
          refine ⟨b, dx, _, rfl, g1.fh _ _ hF, lookup_zip_none hf, ?_⟩
          exact args2 h h2 hn hm (s.grow g1) p1 fun xs ys vs zs F2 H2 g2 r2 r3 l1 l2 q2 => ⟨l1, l2, spP1 g2.fh (r1.mono g2.ff) r2 r3 hd (hl _ vs zs l1 l2) q2⟩
        · rw [if_neg hc] at p1; exact p1.elim
      | _ => exact p1.elim
theorem pick_shift {α : Type} {x : α} {l : List α} : ∀ p : List Nat, pick (0 :: p.map Nat.succ) (x :: l) = x :: pick p l := by
  intro p
  unfold pick
  rw [List.filterMap_cons]
  simp only [List.getElem?_cons_zero, List.filterMap_map]
  congr 1
/-- a new instance, laid and filled -/
theorem made_post {F1 H1 : Hp} {Q : VK} {xs : List Val} {ws : List V} (hs : Same F1 H1) (r1 : RepL c.G F1 xs ws) (hl : ws.length = nn) (p1 : PostV c F1 H1 Q (mi xs >>= fun ys => .ok (.obj k ys))) :
    ∀ x dx, H1 x = none → H1 dx = none → dx ≠ x → spI c.G k nn mi (.ref x :: ws) (upd (upd H1 dx (.own x)) x (.ins (c.G.cls k) dx [])) (fun v H2 => v = .non ∧ Q (.ref x) H2) c.E := by
  intro x dx hx hdx hne
  have s1 : Same F1 (upd (upd H1 dx (.own x)) x (.ins (c.G.cls k) dx [])) := fun a o e => by
    have e1 := hs a o e
    rw [upd_ne (ne_of_none e1 hx), upd_ne (ne_of_none e1 hdx)]
    exact e1
  refine ⟨F1, xs, x, dx, ws, rfl, upd_same, hs.free hx, s1, r1, hl, ?_⟩
  cases hm : mi xs with
  | no => rw [hm] at p1; exact p1
  | err e =>
    rw [hm] at p1
    intro cl d F' H' a1 a2 a3 a4 ee
    refine p1 cl d F' H' ⟨a1, a2, fun a o q => a3 a o (by rw [upd_ne (ne_of_none q hx), upd_ne (ne_of_none q hdx)]; exact q) (ne_of_none q hx), fun a o q => ?_⟩ ee
    rcases a4 a o q with z | z
    · exact .inl z
    · by_cases zx : a = x
      · subst zx; exact .inr hx
      · rw [upd_ne zx] at z
        by_cases zd : a = dx
        · subst zd; exact .inr hdx
        · rw [upd_ne zd] at z; exact .inr z
  | ok ys =>
    rw [hm] at p1
    intro F' H' dy us a1 a2 a3 a4 a5 a6 a7
    obtain ⟨g, n0⟩ := made_grow hs hx hdx a1 a2 a3 a4 a5
    refine ⟨rfl, p1 (.ref x) _ H' g ?_⟩
    simp only [Rep]
    refine ⟨x, dy, us, rfl, upd_same, a6, a7.mono fun a o q => ?_⟩
    rw [upd_ne (ne_of_none q n0)]
    exact q
def makeM (k : Nat) (ml mk : Res (List Val)) (p : List Nat) (ds : List Val) (mi : List Val → Res (List Val)) : Res Val := ml >>= fun xs => mk >>= fun ys => mi (pick p (xs ++ ys ++ ds)) >>= fun zs => .ok (.obj k zs)
theorem makeM_ok {xs ys ds : List Val} : makeM k (.ok xs) (.ok ys) p ds mi = (mi (pick p (xs ++ ys ++ ds)) >>= fun zs => .ok (.obj k zs)) := rfl
/-- C(..) -/
theorem x_makeP (M : Mk X.K (c.G.cls k) f) (d : DfP X j f fd ps (spI c.G k nn mi) (n + 1) ks (0 :: p.map Nat.succ) dvs) (hr : Room (j + 1) X.A) (hx : Passes (L2.CX X.prog X.w) X c.E) (hg : Gl X x) (hmg : X.mg x = some (.ref (c.G.cls k))) (h : EA c X es tA ρ ml) (h2 : EK c X kws tK ρ mk) (hd : ∀ F, RepL c.G F ds dvs) (ap : AP2 X pos es kws ks tA)
    (hn : ∀ xs, ml = .ok xs → xs.length = n) (hm : ∀ xs, mk = .ok xs → xs.length = ks.length) (hl : ∀ vs zs : List V, vs.length = n → zs.length = ks.length → (pick p (vs ++ zs ++ dvs)).length = nn) (hdb : (x == ("__debug__" : Str)) = false := by decide) :
    EX c X (.Call (.Name x po) es kws pos) (tMakeK (c.G.cls k) n ks.length (spI c.G k nn mi) (fun vs zs => pick (0 :: p.map Nat.succ) (vs ++ zs ++ dvs)) c.E tA tK) ρ (makeM k ml mk p ds mi) := by
  obtain ⟨g, kb⟩ := d.bd
  refine ⟨⟨fun pins s σ H Q I h0 => ?_⟩, fun σ F H Q s q => ?_⟩
  · refine wpAny_Call_Name_kw (ld_glob I hg hmg ?_ hdb)
    exact callwith_any ap h.pa h2.pk (kF (P := X.prog) (w := X.w) M.kp) I h0 fun us ws vs zs s2 H2 I2 r1 r2 ⟨l1, l2, q2⟩ => ⟨I2.kIn, run_makeK M d.ok hr kb hx I2 r1 r2 l1 l2 q2⟩
  · exact args2 h h2 hn hm s q fun xs ys vs zs F2 H2 g r1 r2 l1 l2 q2 => ⟨l1, l2, by
      show ∀ x dx, _ → _ → _ → spI c.G k nn mi (pick (0 :: p.map Nat.succ) (.ref x :: (vs ++ zs ++ dvs))) _ _ _
      intro x dx
      rw [pick_shift]
      exact made_post g.fh (((r1.append r2).append (hd F2)).pick p) (hl vs zs l1 l2) q2 x dx⟩
/-- cls(..), the class in the slot i -/
theorem x_makeL {i : Nat} (M : Mk X.K (c.G.cls k) f) (d : DfP X j f fd ps (spI c.G k nn mi) (n + 1) ks (0 :: p.map Nat.succ) dvs) (hr : Room (j + 1) X.A) (hx : Passes (L2.CX X.prog X.w) X c.E) (hv : EX c X (.Name x po) (tVar i) ρ (.ok (.cls k))) (h : EA c X es tA ρ ml) (h2 : EK c X kws tK ρ mk) (hd : ∀ F, RepL c.G F ds dvs) (ap : AP2 X pos es kws ks tA)
    (hn : ∀ xs, ml = .ok xs → xs.length = n) (hm : ∀ xs, mk = .ok xs → xs.length = ks.length) (hl : ∀ vs zs : List V, vs.length = n → zs.length = ks.length → (pick p (vs ++ zs ++ dvs)).length = nn) :
    EX c X (.Call (.Name x po) es kws pos) (fun σ H Q => tVar i σ H fun v H1 => v = .ref (c.G.cls k) ∧ tMakeK (c.G.cls k) n ks.length (spI c.G k nn mi) (fun vs zs => pick (0 :: p.map Nat.succ) (vs ++ zs ++ dvs)) c.E tA tK σ H1 Q) ρ (makeM k ml mk p ds mi) := by
  obtain ⟨g, kb⟩ := d.bd
  refine ⟨⟨fun pins s σ H Q I h0 => ?_⟩, fun σ F H Q s q => ?_⟩
  · refine wpAny_Call_Name_kw (thn (hv.pe.run pins s σ H _ I h0) fun u s1 ⟨v, H1, I1, rx, q1, q2⟩ => ?_)
    subst q1
    cases rx
    exact callwith_any ap h.pa h2.pk (kF (P := X.prog) (w := X.w) M.kp) I1 q2 fun us ws vs zs s2 H2 I2 r1 r2 ⟨l1, l2, q2⟩ => ⟨I2.kIn, run_makeK M d.ok hr kb hx I2 r1 r2 l1 l2 q2⟩
  · refine hv.ev σ F H _ s fun v F1 H1 g1 r1 => ⟨r1, ?_⟩
    exact args2 h h2 hn hm (s.grow g1) (PostX.grow g1 q) fun xs ys vs zs F2 H2 g r1 r2 l1 l2 q2 => ⟨l1, l2, by
      show ∀ x dx, _ → _ → _ → spI c.G k nn mi (pick (0 :: p.map Nat.succ) (.ref x :: (vs ++ zs ++ dvs))) _ _ _
      intro x dx
      rw [pick_shift]
      exact made_post g.fh (((r1.append r2).append (hd F2)).pick p) (hl vs zs l1 l2) q2 x dx⟩
/-- C.m(..), m a classmethod: the class is the first value -/
def tCMethP (C : Addr) (n k : Nat) (sp : Sp) (gV : List V → List V → List V) (E : XK) (ta : TE) (t tk : TA) : TE := fun σ H Q => ta σ H fun x H1 => x = .ref C ∧ t σ H1 fun vs H2 => tk σ H2 fun zs H3 => vs.length = n ∧ zs.length = k ∧ sp (gV (.ref C :: vs) zs) H3 Q E
theorem x_cmethP {pl : Sem Bool} {mc : Value} {pa : Addr} (ho : EX c X o ta ρ (.ok (.cls k))) (hr : ClX.CRead X.K (c.G.cls k) mc) (hc : ClX.CMet X.K (c.G.cls k) mc mn pa f) (d : DfP X j f fd ps (spM c.G nn mm) (n + 1) ks p dvs) (hx : Passes (L2.CX X.prog X.w) X c.E) (h : EA c X es tA ρ ml) (h2 : EK c X kws tK ρ mk) (hd : ∀ F, RepL c.G F ds dvs) (ap : AP2 X pos es kws ks tA)
    (hn : ∀ xs, ml = .ok xs → xs.length = n) (hm : ∀ xs, mk = .ok xs → xs.length = ks.length) (hl : ∀ (v : V) (vs zs : List V), vs.length = n → zs.length = ks.length → (pick p (v :: vs ++ zs ++ dvs)).length = nn)
    (ht : eval (.Call (.Attribute o mn apos) es kws pos) X.env = (do
      let ov ← eval o X.env
      standAt apos.atName
      let (f, first) ← holding [ov] (getMethod ov mn pl)
      callWith pos f first (backTo pos (starEach es X.env)) (backToKw pos (keywordEach kws X.env))) := by rfl) :
    EX c X (.Call (.Attribute o mn apos) es kws pos) (tCMethP (c.G.cls k) n ks.length (spM c.G nn mm) (fun vs zs => pick p (vs ++ zs ++ dvs)) c.E ta tA tK) ρ (ml >>= fun xs => mk >>= fun ys => mm (pick p (.cls k :: xs ++ ys ++ ds))) := by
  obtain ⟨g, kb⟩ := d.bd
  refine ⟨⟨fun pins s σ H Q I h0 => ?_⟩, fun σ F H Q s q => ho.ev σ F H _ s ?_⟩
  · refine PySem.W.methodCall_KW (pl := pl) (thn (ho.pe.run pins s σ H _ I h0) fun u s1 ⟨x, H1, I1, rx, ex, q⟩ => ?_) ht
    subst ex
    obtain rfl : u = Value.ref (c.G.cls k) := rx
    refine ClX.getmethcm_ok I1 hr hc fun s2 I2 => ?_
    refine callwith_any (P := fun h => PySem.W.MethP X.K _ f (.ref (c.G.cls k)) h) ap h.pa h2.pk (fun h Z => PySem.W.keeps_M hc.fi h Z) I2 q fun us ws vs zs s3 H3 I3 r1 r2 ⟨l1, l2, q2⟩ => ⟨⟨ClX.pin_at I3, I3.kIn⟩, ?_⟩
    have z : wpAny (model X.prog X.w) X.A (call (.ref s1.heap.objs.size) us (ks.zip ws)) (EP X ((s1.heap.objs.size, PySem.W.methodObj (.ref f) (.ref (c.G.cls k))) :: pins) σ Q) X.xe s3 := by
      refine wpAny_call (PySem.W.method_call (ClX.pin_at I3) ?_)
      have r3 : Vals (V.ref (c.G.cls k) :: vs) (Value.ref (c.G.cls k) :: us) := .cons rfl r1
      have r4 := kb.rel r3 r2
      refine codeAny_mono (d.ok.run X.A X.stack s3 H3 ⟨.ref (c.G.cls k) :: us, ks.zip ws⟩ (g (.ref (c.G.cls k) :: us) ws) _ (fun v H' => Q v H') c.E d.room I3.env0 (kb.to s3 (.ref (c.G.cls k) :: us) ws I3.kIn (r3.length.symm.trans (congrArg Nat.succ l1)) (r2.length.symm.trans l2)) r4 q2) fun r s' hq => ?_
      cases r with
      | error e => exact hx _ σ H3 s3 e s' I3 hq
      | ok fl =>
        cases fl with
        | ret u => exact I3.after hq
        | next => exact False.elim hq
        | brk => exact False.elim hq
        | cont => exact False.elim hq
    exact thn z fun _ _ y => ClX.unpinE y
  · intro v F1 H1 g1 r1
    refine ⟨r1, ?_⟩
    have r1' : Rep c.G F1 (.cls k) (.ref (c.G.cls k)) := rfl
    exact args2 h h2 hn hm (s.grow g1) (PostX.grow g1 q) fun xs ys vs zs F2 H2 g2 r2 r3 l1 l2 q2 => ⟨l1, l2, spP1 (x0 := .cls k) g2.fh rfl r2 r3 hd (hl _ vs zs l1 l2) q2⟩
end
end Mir
namespace Mir
open PySem PySem.Spec PyProof.Rows L2

/-! ### defs that must not stand under a running repr: no guard around them -/
structure FnG (P : Program) (w : World) (K : PySem.W.Frag) (mg : Str → Option Value) (base : Heap) (k : Nat) (f : Addr) (fd : FuncData) (ps : List Str) (sp : Sp) : Prop where
  len : ∀ vs H Q E, sp vs H Q E → vs.length = ps.length
  go : ∀ (A : Around) (outer : List PySem.Env) (s : Shared) (H : Hp) (args : Args) (us : List Value) (vs : List V) (Q : VK) (E : XK), A.guards = some [] → Room k A → Env0 P w K mg base A outer s H → BindsTo s fd args (ps.zip us) → Vals vs us → sp vs H Q E →
    codeAny (model P w) A (.call (.ref f) args) (CR (L2.CX P w) outer P w H s Q E) s
section
variable {P : Program} {w : World} {K : PySem.W.Frag} {mg : Str → Option Value} {base : Heap} {j k : Nat} {f : Addr} {fd : FuncData} {ps : List Str} {sp : Sp}
theorem FnG.of (F : FnOk P w K mg base (L2.CX P w) k f fd ps sp) : FnG P w K mg base k f fd ps sp := ⟨F.len, fun A o s H args us vs Q E _ => F.run A o s H args us vs Q E⟩
theorem FnG.mono (F : FnG P w K mg base j f fd ps sp) (h : j ≤ k) : FnG P w K mg base k f fd ps sp := ⟨F.len, fun A o s H args us vs Q E g hr => F.go A o s H args us vs Q E g (hr.mono h)⟩
/-- the def itself: its body is walked where no guard stands -/
theorem fnG_of {x qual : Str} {pa : Arguments} {bd : List Stmt} {sc : Scope} {dvs : List V} {N : List Str} (Fd : FunD K x qual pa bd sc dvs [] f fd) (S : FnScope N ps sc) (hlen : ∀ vs H Q E, sp vs H Q E → vs.length = ps.length)
    (hb : ∀ (cdv : Value) (A : Around) (outer : List PySem.Env) (s : Shared) (H : Hp) (vs : List V) (Q : VK) (E : XK), (cxOf (L2.CX P w) P w K mg base N qual sc f cdv A outer s H E).A.guards = some [] → Room k (cxOf (L2.CX P w) P w K mg base N qual sc f cdv A outer s H E).A → sp vs H Q E →
      ∃ t, PSs (cxOf (L2.CX P w) P w K mg base N qual sc f cdv A outer s H E) bd t ∧ t { nx := fun _ H' => Q .non H', rt := Q } (L2.start N vs) H) : FnG P w K mg base (k + 1) f fd ps sp := by
  obtain ⟨oc, od, dV, kV, dc, pm, an, cdv, ct, sl, rfl, hf, hcode, _, _⟩ := Fd.ex
  refine ⟨hlen, ?_⟩
  intro A outer s H args us vs Q E hg hr env bnd rv hsp
  have inK : K.In s.heap := env.mod.kin.keeps fun a o z => (env.bs a o z).1
  have noLim : s.heap.NoLimit := env.mod.nolimit.keeps fun a o z => (env.bs a o z).1
  have kinds : ∀ q ∈ ps.zip us, sc.names.lookup q.1 = some .local ∨ (sc.names.lookup q.1 = some .cell ∧ ((cellsFrom (s.heap.objs.size + 1) sc.names []).lookup q.1).isSome = true) := by
    rintro ⟨n, u⟩ hq
    exact (S.par n (List.of_mem_zip hq).1).imp id fun z => ⟨z, PySem.W.cellsFrom_some _ _ _ (.inl z)⟩
  refine codeAny_call_function hr.depth (inK _ _ hf) rfl S.co S.gen rfl (PySem.W.codeRec_of inK hcode) (bnd _ _ _ _ (wpAny_newFunctionEnv_cells S.kind kinds ?_))
  intro e he s1 ic
  subst he
  refine ⟨noLim.keeps ic.toInCall.keep, codeAny_func ?_⟩
  obtain ⟨t, walk, start⟩ := hb cdv A outer s H vs Q E hg (hr.deeper _) hsp
  have I := inv_start (CX := L2.CX P w) (E := E) S hr.hd env (hlen _ _ _ _ hsp) rv ic
  refine wpAny_mono (walk.run [] s1 _ H _ I start) ?_ fun _ _ z => z
  intro fl s' out
  cases fl with
  | brk => exact out.elim fun _ z => z.elim fun _ z => z.2.elim
  | cont => exact out.elim fun _ z => z.elim fun _ z => z.2.elim
  | next => exact out.elim fun _ z => z.elim fun H' z => ⟨V.non, H', z.1.os, z.1.bare, z.1.base, z.1.hok, rfl, z.2⟩
  | ret u => exact out.elim fun v z => z.elim fun _ z => z.elim fun H' z => ⟨v, H', z.1.os, z.1.bare, z.1.base, z.1.hok, z.2.1, z.2.2⟩
end
/-- the script among the objects: at a, held fast, or the text's own -/
theorem script_at {P : Program} {w : World} {K : PySem.W.Frag} {s : Shared} {a : Addr} {us : List Value} {ns : List Int} (inK : K.In s.heap) (ha : s.heap.get? a = some { cls := .type "list", data := .seq us.toArray }) (hi : IntsAre us ns) (hl : ns.length ≤ sizeLine) :
    ∃ H : Hp, Only H ∧ SqL K H a (ns.map V.int) ∧ HOk P w H s.heap ∧ (∀ b, H b ≠ none → b = a ∧ K.lookup a = none) := by
  have rv := vals_ints hi
  cases inText : K.lookup a with
  | some o =>
    have same := (inK a o inText).symm.trans ha
    cases same
    refine ⟨fun _ => none, fun _ => Or.inl rfl, Or.inr ⟨_, us.toArray, _, inText, rfl, rfl, rfl, ?_, by simpa using rv⟩, ?_, ?_⟩
    · rw [List.size_toArray, hi.length]
      exact hl
    · intro b u z
      have z' : (none : Option HO) = some u := z
      cases z'
    · exact fun b z => absurd rfl z
  | none =>
    let O : Obj := { cls := .type "list", data := .seq us.toArray }
    have here : ∀ {b : Addr}, b = a → (fun b => if b = a then some (HO.frz O (.lst (ns.map V.int))) else none) b = some (HO.frz O (.lst (ns.map V.int))) := fun e => if_pos e
    have away : ∀ {b : Addr}, b ≠ a → (fun b => if b = a then some (HO.frz O (.lst (ns.map V.int))) else none) b = none := fun e => if_neg e
    refine ⟨fun b => if b = a then some (HO.frz O (.lst (ns.map V.int))) else none, fun b => ?_, Or.inl (Or.inr ⟨O, here rfl⟩), fun b u z => ?_, fun b z => ⟨Classical.byContradiction fun n => z (away n), rfl⟩⟩
    · by_cases e : b = a
      · exact Or.inr ⟨_, _, here e⟩
      · exact Or.inl (away e)
    · by_cases e : b = a
      · subst e
        cases (here rfl).symm.trans z
        exact ⟨ha, by rw [List.length_map]; exact hl, us, _, rv, ha⟩
      · cases (away e).symm.trans z
theorem law_goG {P : Program} {w : World} {K : PySem.W.Frag} {mg mb : Str → Option Value} {k : Nat} {fa a : Addr} {fd : FuncData} {x : Str} {sp : Sp} {s : Shared} {us : List Value} {ns : List Int} (inK : K.In s.heap) (nsG : s.heap.Ns mainGlobals mg) (nsB : s.heap.Ns builtinsNs mb) (hmb : ∀ x : Str, x ≠ "__name__" → mb x = bootBuiltins x) (noLim : s.heap.NoLimit) (noGen : s.gens = #[])
    (ha : s.heap.get? a = some { cls := .type "list", data := .seq us.toArray }) (hi : IntsAre us ns) (hl : ns.length ≤ sizeLine) (hr : Room k callerA) (F : ∀ base : Heap, K.In base → base.Ns mainGlobals mg → FnG P w K mg base k fa fd [x] sp) (hbind : ∀ (s : Shared) (u : Value), BindsTo s fd ⟨[u], []⟩ [(x, u)])
    (hsp : ∀ H : Hp, SqL K H a (ns.map V.int) → sp [.ref a] H (fun v _ => v = .bl true) E0) :
    codeAny (model P w) callerA (.call (.ref fa) ⟨[.ref a], []⟩) (fun r s' => r = .ok (.ret (.bool true)) ∧ OldK s.heap s'.heap ∧ s'.os = s.os ∧ AllBare s'.gens) s := by
  obtain ⟨H, only, atA, ok, dom⟩ := script_at (P := P) (w := w) inK ha hi hl
  have low : ∀ {b : Addr} {o : Obj}, s.heap.get? b = some o → H b = none → (hidT s.heap H).get? b = some o := fun z n => hidT_get z n
  have spaces : ∀ {b : Addr} {m : Str → Option Value}, s.heap.Ns b m → (hidT s.heap H).Ns b m := by
    rintro b m ⟨o, es, ep, e, d, r⟩
    refine ⟨o, es, ep, low e (Classical.byContradiction fun n => ?_), d, r⟩
    obtain ⟨rfl, _⟩ := dom b n
    cases ha.symm.trans e
    cases d
  have inB : K.In (hidT s.heap H) := fun b o e => low (inK b o e) (Classical.byContradiction fun n => by
    obtain ⟨rfl, z⟩ := dom b n
    cases z.symm.trans e)
  have md : Mod K mg (hidT s.heap H) := ⟨inB, spaces nsG, ⟨mb, spaces nsB, hmb⟩, noLim.elim fun mc z => ⟨mc, spaces z.1, z.2⟩⟩
  have none_ex : ∀ {b : Addr} {p : Prop}, b ∈ ([] : List Addr) → p := fun z => (List.not_mem_nil z).elim
  have env : Env0 P w K mg (hidT s.heap H) callerA [] s H := ⟨rfl, md, fun b o e => of_hidT e, Nat.le_of_eq (hidT_size _ _), trivial, fun b z => none_ex z, ok, .of_eq noGen⟩
  refine codeAny_mono ((F _ inB (spaces nsG)).go callerA [] s H ⟨[.ref a], []⟩ [.ref a] [.ref a] _ _ rfl hr env (hbind s (.ref a)) (.cons rfl .nil) (hsp H atA)) ?_
  intro r s' out
  cases r with
  | error e =>
    obtain ⟨_, _, _, _, _, _, _, _, _, _, _, _, z⟩ := out
    exact z.elim
  | ok fl =>
    cases fl with
    | next => exact False.elim out
    | brk => exact False.elim out
    | cont => exact False.elim out
    | ret u =>
      obtain ⟨v, H', eos, bare, un, ok', rel, q⟩ := out
      have q' : v = V.bl true := q
      subst q'
      obtain rfl : u = Value.bool true := rel
      refine ⟨rfl, OldK.of_keep fun b o e => ?_, eos, bare⟩
      cases hb : H b with
      | none => exact un.keep b o e hb (fun z => none_ex z) (by simp)
      | some t =>
        rcases only b with z | ⟨ob, xs, z⟩
        · cases hb.symm.trans z
        · obtain ⟨was, _⟩ := ok b _ z
          obtain ⟨is, _⟩ := ok' b _ (un.frzs b ob _ z)
          cases e.symm.trans was
          exact is
/-- the head's end, for a law without guards around -/
theorem walkG {l : PySem.W.OpenLaw} {n k : Nat} {q : Program} {loose : List Str} {XP : (Str → Option Value) → Heap → Prop} {YP : World → Heap → Prop} {d : DefRec} {K : Params → PySem.W.Frag} {sp : World → Sp} {x : Str} (hmost : l.most = some n) (hsz : n ≤ sizeLine) (hdf : d.params.defaults = []) (hr : Room k callerA)
    (hY : ∀ (w : World) (h : Heap), YP w h → (K w.params).In h)
    (F : ∀ (w : World) (mg : Str → Option Value) (fa : Addr) (h : Heap), (K w.params).In h → h.Ns mainGlobals mg → mg d.name = some (.ref fa) → ∃ fd : FuncData, (∀ (s : Shared) (u : Value), BindsTo s fd ⟨[u], []⟩ [(x, u)]) ∧ ∀ base : Heap, (K w.params).In base → base.Ns mainGlobals mg → FnG l.prog w (K w.params) mg base k fa fd [x] (sp w))
    (hsp : ∀ (w : World) (H : Hp) (a : Addr) (ns : List Int), ns.length ≤ n → SqL (K w.params) H a (ns.map V.int) → sp w [.ref a] H (fun v _ => v = .bl true) E0) : PySem.W.WalkO q loose XP YP l.row.toRowW d [] (fun f vs => PySem.call f vs) := by
  refine Att.attach_call hmost hdf fun w s0 s mg mb fa o pm cd doc a us ns G Y h1 h2 h3 hmg hobj hints hlen hgen => ?_
  obtain ⟨fd, hb, hF⟩ := F w mg fa _ (hY w _ Y) G.T.g hmg
  exact law_goG (hY w _ Y) G.T.g G.T.b G.T.builtins G.T.nolimit hgen hobj hints (Nat.le_trans hlen hsz) hr hF hb fun H hS => hsp w H a ns hlen hS
/-! ### calls of such defs -/
section
variable {c : Cxt} {X : Cx} {e a b : Expr} {es : List Expr} {kws : List Keyword} {ks : List Str} {ta tb te : TE} {tA tK : TA} {ρ : Ros} {m : Res Val} {ml mk : Res (List Val)} {pos po : Pos} {x : Str} {j n nn : Nat} {f : Addr} {fd : FuncData} {ps : List Str} {mm : List Val → Res Val} {p : List Nat} {ds : List Val} {dvs : List V}
theorem run_fnGN {E : XK} {sp : Sp} {gV : List V → List V → List V} {g : List Value → List Value → List Value} {pins : List (Addr × Obj)} {σ : L2.St} {H : Hp} {s : Shared} {Q : VK} {us ws : List Value} {vs zs : List V} (F : FnG X.prog X.w X.K X.mg X.base j f fd ps sp) (hg : X.A.guards = some []) (hr : Room j X.A) (hb : KBn X.K fd ps n ks g gV) (hx : Passes (L2.CX X.prog X.w) X E)
    (I : Inv X pins σ H s) (r : Vals vs us) (rz : Vals zs ws) (l1 : vs.length = n) (l2 : zs.length = ks.length) (h : sp (gV vs zs) H Q E) : wpAny (model X.prog X.w) X.A (call (.ref f) us (ks.zip ws)) (EP X pins σ Q) X.xe s := by
  refine wpAny_call (codeAny_mono (F.go X.A X.stack s H ⟨us, ks.zip ws⟩ (g us ws) (gV vs zs) Q E hg hr I.env0 (hb.to s us ws I.kIn (r.length.symm.trans l1) (rz.length.symm.trans l2)) (hb.rel r rz) h) ?_)
  intro out s' hq
  cases out with
  | error e => exact hx pins σ H s e s' I hq
  | ok fl =>
    cases fl with
    | ret u => exact I.after hq
    | next => exact False.elim hq
    | brk => exact False.elim hq
    | cont => exact False.elim hq
structure DfG (X : Cx) (j : Nat) (f : Addr) (fd : FuncData) (ps : List Str) (sp : Sp) (n : Nat) (ks : List Str) (p : List Nat) (dvs : List V) : Prop where
  ok : FnG X.prog X.w X.K X.mg X.base j f fd ps sp
  gd : X.A.guards = some []
  room : Room j X.A
  bd : Bnd X.K fd ps n ks p dvs
/-- f(..) -/
theorem x_fnG (d : DfG X j f fd ps (spM c.G nn mm) n ks p dvs) (hx : Passes (L2.CX X.prog X.w) X c.E) (hg : Gl X x) (hmg : X.mg x = some (.ref f)) (hkp : PySem.W.keepIn X.K (.ref f) = true) (h : EA c X es tA ρ ml) (h2 : EK c X kws tK ρ mk) (hd : ∀ F, RepL c.G F ds dvs) (ap : AP2 X pos es kws ks tA)
    (hn : ∀ xs, ml = .ok xs → xs.length = n) (hm : ∀ xs, mk = .ok xs → xs.length = ks.length) (hl : ∀ vs zs : List V, vs.length = n → zs.length = ks.length → (pick p (vs ++ zs ++ dvs)).length = nn) (hdb : (x == ("__debug__" : Str)) = false := by decide) :
    EX c X (.Call (.Name x po) es kws pos) (tCallN n ks.length (spM c.G nn mm) (fun vs zs => pick p (vs ++ zs ++ dvs)) c.E tA tK) ρ (callM ml mk p ds mm) := by
  obtain ⟨g, kb⟩ := d.bd
  refine ⟨⟨fun pins s σ H Q I h0 => ?_⟩, fun σ F H Q s q => ?_⟩
  · refine wpAny_Call_Name_kw (ld_glob I hg hmg ?_ hdb)
    exact callwith_any ap h.pa h2.pk (kF (P := X.prog) (w := X.w) hkp) I h0 fun us ws vs zs s2 H2 I2 r1 r2 ⟨l1, l2, q2⟩ => ⟨I2.kIn, run_fnGN d.ok d.gd d.room kb hx I2 r1 r2 l1 l2 q2⟩
  · exact args2 h h2 hn hm s q fun xs ys vs zs F2 H2 g r1 r2 l1 l2 q2 => ⟨l1, l2, spP g.fh r1 r2 hd (hl vs zs l1 l2) q2⟩
end
/-- what a body may use where no guard stands -/
structure BdG (P : Program) (w : World) (k : Nat) (E : XK) (X : Cx) : Prop extends Bd P w k E X where
  gd : X.A.guards = some []
/-- THE RULE for a def without effects, where no guard stands -/
theorem fnSG {P : Program} {w : World} {K : PySem.W.Frag} {mg : Str → Option Value} {base : Heap} {G : Glo} {x qual : Str} {st : Stmt} {f : Addr} {fd : FuncData} {N ps : List Str} {k : Nat} {dvs : List V} {mm : List Val → Res Val} (Fd : FnD K x qual st dvs f fd) (S : FnScope N ps (defScope st)) (d : List Val) (hd : d.length = ps.length)
    (hbody : ∀ (cdv : Value) (A : Around) (outer : List PySem.Env) (s : Shared) (H : Hp) (E : XK), BdG P w k E (cxOf (L2.CX P w) P w K mg base N qual (defScope st) f cdv A outer s H E) →
      ∃ t, ∀ (F0 : Hp) (xs : List Val), xs.length = ps.length → SB ⟨G, E, H, F0, none, N.length⟩ (cxOf (L2.CX P w) P w K mg base N qual (defScope st) f cdv A outer s H E) (relV G) (defBody st) t (rho N.length xs) (mm xs) (fun _ r => r = .ok .non) X0 X0) :
    FnG P w K mg base (k + 1) f fd ps (spM G ps.length mm) := by
  refine fnG_of Fd S (fun vs H Q E h => ?_) (fun cdv A outer s H vs Q E hgd hr h => ?_)
  · obtain ⟨F, xs, _, _, e, _⟩ := h
    exact e
  · obtain ⟨F, xs, hs, r, e, p⟩ := h
    have tk : Takes (cxOf (L2.CX P w) P w K mg base N qual (defScope st) f cdv A outer s H E) (fun cls d _ H => E cls d H) := takes_of rfl rfl rfl rfl
    obtain ⟨t, hb⟩ := hbody cdv A outer s H E ⟨⟨hr, passes_call tk fun _ _ _ _ h => h, tk, passes_of rfl⟩, hgd⟩
    refine ⟨t, (hb (fun _ => none) d hd).ps, ?_⟩
    have hl : vs.length ≤ N.length := by
      have := congrArg List.length S.pre
      rw [List.length_take] at this
      omega
    have s0 := at_start (G := G) (E := E) (N := N) hs r hl
    refine (hb F xs (by rw [← r.length]; exact e)).bx { nx := fun _ H' => Q .non H', rt := Q } Q _ F H rfl (fun σ' F' H' ρ' r' _ q s' p' => ?_) (fun _ _ _ _ _ _ z => z.elim) (fun _ _ _ _ _ _ z => z.elim) s0 ?_
    · subst q
      exact p' .non F' H' (Same.refl _) s'.sub s'.kept s'.fresh rfl
    · cases hm : mm xs with
      | no => rw [hm] at p; exact p
      | ok y =>
        rw [hm] at p
        exact fun v F' H' a1 a2 a3 a4 a5 => p v F' H' ⟨a1, a2, fun b o q => a3 b o q (fun z => nomatch z), a4⟩ a5
      | err ex =>
        rw [hm] at p
        exact fun cl d F' H' a1 a2 a3 a4 a5 => p cl d F' H' ⟨a1, a2, fun b o q => a3 b o q (fun z => nomatch z), a4⟩ a5
end Mir
namespace Mir
open PySem PySem.Spec PyProof.Rows L2

/-! ### texts -/
mutual
def pd : Val → Option PyData
  | .non => some .none
  | .bl b => some (.bool b)
  | .int i => some (.int i)
  | .str s => some (.str s)
  | .lst xs => (pdL xs).map .list
  | .tup xs => (pdL xs).map .tuple
  | _ => none
def pdL : List Val → Option (List PyData)
  | [] => some []
  | x :: xs => match pd x, pdL xs with
    | some d, some ds => some (d :: ds)
    | _, _ => none
end
section
variable {G : Glo} {F H : Hp} {X : Cx} {pins : List (Addr × Obj)} {σ : L2.St} {s : Shared}
mutual
theorem rep_reads (hK : X.K = G.K) (I : Inv X pins σ H s) (hs : Same F H) : ∀ {x : Val} {v : V} {u : Value} {d : PyData}, Rep G F x v → RelV v u → pd x = some d → (∃ as, Reads s.heap u d as) ∧ d.hasDict = false
  | .non, v, u, d, r, ru, h => by
    cases r; cases ru; simp only [pd] at h; cases h
    exact ⟨⟨_, .none⟩, rfl⟩
  | .bl b, v, u, d, r, ru, h => by
    cases r; cases ru; simp only [pd] at h; cases h
    exact ⟨⟨_, .bool _⟩, rfl⟩
  | .int b, v, u, d, r, ru, h => by
    cases r; obtain ⟨t, rfl⟩ := ru; simp only [pd] at h; cases h
    exact ⟨⟨_, .int _ _⟩, rfl⟩
  | .str b, v, u, d, r, ru, h => by
    cases r; obtain ⟨t, rfl⟩ := ru; simp only [pd] at h; cases h
    exact ⟨⟨_, .str _ _⟩, rfl⟩
  | .lst xs, v, u, d, r, ru, h => by
    obtain ⟨a, vs, rfl, hq, _, rl⟩ := rep_lst r
    obtain rfl : u = Value.ref a := ru
    simp only [pd, Option.map_eq_some_iff] at h
    obtain ⟨ds, h1, rfl⟩ := h
    obtain ⟨its, rv, ⟨o, n, e, ec, _, ed⟩, _⟩ := I.list (a := a) (xs := vs) (by rw [hK]; exact sqL_mono hs hq)
    obtain ⟨⟨as, q⟩, q2⟩ := rep_readsL hK I hs rl rv h1
    exact ⟨⟨_, .list e ec ed (by simpa using q)⟩, q2⟩
  | .tup xs, v, u, d, r, ru, h => by
    obtain ⟨a, vs, rfl, hq, _, rl⟩ := rep_tup r
    obtain rfl : u = Value.ref a := ru
    simp only [pd, Option.map_eq_some_iff] at h
    obtain ⟨ds, h1, rfl⟩ := h
    obtain ⟨its, rv, ⟨o, e, ec, n, ed⟩, _⟩ := I.tuple (a := a) (xs := vs) (by rw [hK]; exact sqT_mono hs hq)
    obtain ⟨⟨as, q⟩, q2⟩ := rep_readsL hK I hs rl rv h1
    exact ⟨⟨_, .tuple e ec ed (by simpa using q)⟩, q2⟩
  | .obj _ _, v, u, d, r, ru, h => by simp [pd] at h
  | .cls _, v, u, d, r, ru, h => by simp [pd] at h
theorem rep_readsL (hK : X.K = G.K) (I : Inv X pins σ H s) (hs : Same F H) : ∀ {xs : List Val} {vs : List V} {us : List Value} {ds : List PyData}, RepL G F xs vs → Vals vs us → pdL xs = some ds → (∃ as, ReadsAll s.heap us ds as) ∧ PyData.hasDictAll ds = false
  | [], vs, us, ds, r, ru, h => by
    simp only [RepL] at r; subst r
    cases ru
    simp only [pdL] at h; cases h
    exact ⟨⟨_, .nil⟩, rfl⟩
  | x :: xs, vs, us, ds, r, ru, h => by
    simp only [RepL] at r
    obtain ⟨v, vs', rfl, r1, r2⟩ := r
    cases ru with
    | cons h1 h2 =>
      simp only [pdL] at h
      split at h
      · rename_i d' ds' e1 e2
        cases h
        obtain ⟨⟨as, q1⟩, q2⟩ := rep_reads hK I hs r1 h1 e1
        obtain ⟨⟨bs, q3⟩, q4⟩ := rep_readsL hK I hs r2 h2 e2
        exact ⟨⟨_, .cons q1 q3⟩, by simp [PyData.hasDictAll, q2, q4]⟩
      · cases h
end
end
mutual
theorem pd_plain : ∀ {x : Val} {d : PyData}, pd x = some d → d.hasDict = false
  | .non, d, h => by simp only [pd] at h; cases h; rfl
  | .bl b, d, h => by simp only [pd] at h; cases h; rfl
  | .int b, d, h => by simp only [pd] at h; cases h; rfl
  | .str b, d, h => by simp only [pd] at h; cases h; rfl
  | .lst xs, d, h => by
    simp only [pd, Option.map_eq_some_iff] at h
    obtain ⟨ds, h1, rfl⟩ := h
    exact pd_plainL h1
  | .tup xs, d, h => by
    simp only [pd, Option.map_eq_some_iff] at h
    obtain ⟨ds, h1, rfl⟩ := h
    exact pd_plainL h1
  | .obj _ _, d, h => by simp [pd] at h
  | .cls _, d, h => by simp [pd] at h
theorem pd_plainL : ∀ {xs : List Val} {ds : List PyData}, pdL xs = some ds → PyData.hasDictAll ds = false
  | [], ds, h => by simp only [pdL] at h; cases h; rfl
  | x :: xs, ds, h => by
    simp only [pdL] at h
    split at h
    · rename_i d' ds' e1 e2
      cases h
      simp [PyData.hasDictAll, pd_plain e1, pd_plainL e2]
    · cases h
end
/-- the text of data -/
def shownV (d : PyData) : Res Val := if d.showable = true ∧ d.shown.length ≤ sizeLine ∧ d.depth ≤ 50 then .ok (.str d.shown) else .no
/-- .. which must be a text -/
def asS (m : Res Val) : Res Val := m >>= fun v => match v with
  | .str s => .ok (.str s)
  | _ => .no
@[simp] theorem asS_ok {s : Str} : asS (.ok (.str s)) = .ok (.str s) := rfl
def bRepr (k : Nat) (mo : List Val → Res Val) : List Val → Res Val
  | [.obj c fs] => if c = k then asS (mo [.obj c fs]) else .no
  | [.lst xs] => (match pd (.lst xs) with | some d => shownV d | none => .no)
  | [.tup xs] => (match pd (.tup xs) with | some d => shownV d | none => .no)
  | _ => .no
def bStr (k : Nat) (mo : List Val → Res Val) : List Val → Res Val
  | [.obj c fs] => if c = k then asS (mo [.obj c fs]) else .no
  | [.int a] => strZ a
  | _ => .no
section
variable {c : Cxt} {X : Cx}
theorem callR_or {f : Value} {r r' : List V → Hp → VK → Prop} (h : CallR X f r) (h' : CallR X f r') : CallR X f (fun vs H Q => r vs H Q ∨ r' vs H Q) := by
  intro pins s σ H vs us Q I rv q
  exact q.elim (h pins s σ H vs us Q I rv) (h' pins s σ H vs us Q I rv)
/-- an own def deeper down: the frames are the same -/
theorem run_deep {CX : CXT} {k : Nat} {f : Addr} {fd : FuncData} {ps : List Str} {sp : Sp} {E : XK} {A : Around} {pins : List (Addr × Obj)} {σ : L2.St} {H : Hp} {s : Shared} {Q : VK} {us : List Value} {vs : List V} (F : FnOk X.prog X.w X.K X.mg X.base CX k f fd ps sp) (hA : A.frames = X.A.frames) (hr : Room k A) (hb : Binds X.K fd ps []) (hx : Passes CX X E)
    (I : Inv X pins σ H s) (r : Vals vs us) (h : sp vs H Q E) : wpAny (model X.prog X.w) A (call (.ref f) us) (EP X pins σ Q) X.xe s := by
  have e0 : Env0 X.prog X.w X.K X.mg X.base A X.stack s H := by
    have e := I.env0
    exact ⟨hA.trans e.frames, e.mod, e.bs, e.bsz, e.funs, e.frf, e.hok, e.bare⟩
  have hl := F.len _ _ _ _ h
  refine wpAny_call (codeAny_mono (F.run A X.stack s H ⟨us, []⟩ us vs _ E hr e0 (by
    have := hb s us I.kIn (by rw [List.append_nil, ← r.length]; exact hl)
    simpa using this) r h) ?_)
  intro out s' hq
  cases out with
  | error e => exact hx pins σ H s e s' I hq
  | ok fl =>
    cases fl with
    | ret w => exact I.after hq
    | next => exact False.elim hq
    | brk => exact False.elim hq
    | cont => exact False.elim hq
/-- str(o), repr(o) by an own def -/
def rTxt (C : Addr) (sp : Sp) (E : XK) : List V → Hp → VK → Prop := fun vs H Q => ∃ a dx fs, vs = [.ref a] ∧ H a = some (.ins C dx fs) ∧ sp [.ref a] H (fun v H' => ∃ y, v = .str y ∧ Q (.str y) H') E
theorem call_strOwn {CX : CXT} {k : Nat} {C f : Addr} {fd : FuncData} {ps : List Str} {sp : Sp} {E : XK} (hs : PySem.W.findIn X.K (.ref C) "__str__" = some (some (.ref f))) (hf : PySem.W.isFn X.K (.ref f) = true) (F : FnOk X.prog X.w X.K X.mg X.base CX k f fd ps sp) (hr : Room (k + 2) X.A) (hb : Binds X.K fd ps []) (hx : Passes CX X E) : CallR X (.type "str") (rTxt C sp E) := by
  intro pins s σ H vs us Q I rv h
  obtain ⟨a, dx, fs, rfl, ha, hsp⟩ := h
  obtain ⟨u, rfl, ru⟩ := vals1 rv
  obtain rfl : u = Value.ref a := ru
  obtain ⟨mA, O, _⟩ := ins_get I.hok ha
  obtain ⟨od, J, _⟩ := O.look
  have deep := run_deep (A := X.A.in1.in1) (us := [.ref a]) (vs := [V.ref a]) F rfl hr.in1.in1 hb hx I (.cons rfl .nil) hsp
  refine callType_codes (T := "str") (Bi := Builtin.«object.__init__») (Q₁ := fun r s₁ => ∃ y u, r = .str y u ∧ EP X pins σ Q r s₁) PySem.F.called_str (PySem.F.typeCall_str_1 _) PySem.F.entry_object_init ?_ ?_
  · refine codeAny_of_tree ?_
    show wpAny _ X.A.in1.in1 (do checkBuiltinCall "str.__new__" ⟨[.type "str", .ref a], []⟩; again (.builtin "str.__new__" ⟨[.type "str", .ref a], []⟩)) _ _ s
    refine wpAny_bind (wpAny_of_eq (PySem.F.newCall_str_1 _) (wpAny_pure ⟨plainId_quiet (by decide +kernel) _, codeAny_builtin PySem.F.entry_str_new ?_⟩))
    rw [Around.under_plainId (by decide +kernel) _, str_new_tree]
    refine wpAny_bind (wpAny_pure (wpAny_bind (wpAny_of_eq isSubtype_str_str (wpAny_bind ?_))))
    unfold PySem.Builtin.Str.strOf
    rw [show PySem.Builtin.Str.isExactStr (.ref a) = false from rfl]
    refine wpAny_bind (m := cRoomFor _ _) (wpAny_cRoomFor hr.in1.in1.units0 ?_)
    refine wpAny_bind (m := callSpecial? (.ref a) (Str.ofString "__str__")) (PySem.W.special_fn I.kIn J hs (beq_iff_eq.mp hf) (wpAny_mono deep (fun r s' z => ?_) fun _ _ z => z))
    obtain ⟨v, H', I', rz, y, rfl, q⟩ := z
    obtain ⟨t, rfl⟩ := rz
    exact wpAny_pure (wpAny_pure ⟨_, _, rfl, .str y, H', I', ⟨t, rfl⟩, q⟩)
  · rintro obj s₁ ⟨y, u, rfl, hq⟩
    exact ⟨typeIs_str _ _ _, PySem.F.args_object_init_2 _ _, object_init_meets PySem.F.called_str.init.lookup PySem.F.called_str.made (by decide) X.prog X.w X.A.in1 _ s₁ ⟨typeIs_str _ _ _, rfl, hq⟩⟩
theorem call_reprOwn {CX : CXT} {k : Nat} {C f : Addr} {fd : FuncData} {ps : List Str} {sp : Sp} {E : XK} (hs : PySem.W.findIn X.K (.ref C) "__repr__" = some (some (.ref f))) (hf : PySem.W.isFn X.K (.ref f) = true) (F : FnOk X.prog X.w X.K X.mg X.base CX k f fd ps sp) (hr : Room (k + 1) X.A) (hb : Binds X.K fd ps []) (hx : Passes CX X E) : CallR X (.builtin "repr") (rTxt C sp E) := by
  intro pins s σ H vs us Q I rv h
  obtain ⟨a, dx, fs, rfl, ha, hsp⟩ := h
  obtain ⟨u, rfl, ru⟩ := vals1 rv
  obtain rfl : u = Value.ref a := ru
  obtain ⟨mA, O, _⟩ := ins_get I.hok ha
  obtain ⟨od, J, _⟩ := O.look
  obtain ⟨m, hF⟩ := I.fr
  refine PySem.W.repr_K hr.in1.units0 hF I.ok.mod.kin J hs hf (wpAny_mono (run_deep (A := X.A.in1) (us := [.ref a]) (vs := [V.ref a]) F rfl hr.in1 hb hx I (.cons rfl .nil) hsp) ?_ fun _ _ z => z)
  rintro r s' ⟨v, H', I', rz, y, rfl, q⟩
  obtain ⟨t, rfl⟩ := rz
  exact ⟨.str y, H', I', ⟨t, rfl⟩, q⟩
/-- repr of data -/
def rRep (X : Cx) : List V → Hp → VK → Prop := fun vs H Q => ∃ a d, vs = [.ref a] ∧ d.showable = true ∧ d.shown.length ≤ sizeLine ∧ d.depth ≤ 50 ∧ d.hasDict = false ∧ (∀ pins σ s, Inv X pins σ H s → ∃ as, Reads s.heap (.ref a) d as) ∧ Q (.str d.shown) H
theorem call_reprData (hg : X.A.guards = some []) (hu : X.A.units + 64 < cLine) : CallR X (.builtin "repr") (rRep X) := by
  intro pins s σ H vs us Q I rv h
  obtain ⟨a, d, rfl, h1, h2, h3, h4, h5, q⟩ := h
  obtain ⟨u, rfl, ru⟩ := vals1 rv
  obtain rfl : u = Value.ref a := ru
  obtain ⟨as, rd⟩ := h5 pins σ s I
  exact repr_of_reads' rd h1 (fun z => by rw [h4] at z; cases z) hg (by omega) (fun _ _ z => z) (fun h' u tk hk => ⟨.str d.shown, H, I.kept hk, ⟨_, rfl⟩, q⟩) h2
theorem post_asS {F H : Hp} {Q : VK} {m : Res Val} (p : PostV c F H Q (asS m)) : PostV c F H (fun v H' => ∃ y, v = .str y ∧ Q (.str y) H') m := by
  cases m with
  | err e => exact p
  | no => exact p
  | ok x =>
    intro v F1 H1 g r
    cases x with
    | str k =>
      cases r
      exact ⟨k, rfl, (PostX.grow g p : PostV c F1 H1 Q (.ok (.str k))).done g.fh rfl⟩
    | _ => exact p.elim
theorem cv_str {k : Nat} {mo : List Val → Res Val} : CallV c (fun xs H Q => (∃ i, xs = [.int i] ∧ i.natAbs.log2 < 1920 ∧ Q (.str (toString i)) H) ∨ rTxt (c.G.cls k) (spM c.G 1 mo) c.E xs H Q) (bStr k mo) := by
  intro xs vs F H Q hs r p
  unfold bStr at p
  split at p
  · rename_i k' fs
    split at p
    · rename_i hh
      subst hh
      obtain ⟨v, rfl, rv⟩ := repL1 r
      have rv0 := rv
      obtain ⟨a, dx, ws, rfl, hF, _⟩ := rep_obj rv
      exact .inr ⟨a, dx, _, rfl, hs _ _ hF, spM1 hs rv0 (post_asS p)⟩
    · exact p.elim
  · obtain ⟨v, rfl, rv⟩ := repL1 r
    cases rv
    unfold strZ at p
    split at p
    · rename_i hz
      exact .inl ⟨_, rfl, hz, p.done hs rfl⟩
    · exact p.elim
  · exact p.elim
theorem rRep_of {F H : Hp} {x : Val} {v : V} {Q : VK} (hK : X.K = c.G.K) (hs : Same F H) (rv : Rep c.G F x v) (hv : ∃ a, v = .ref a) (p : PostV c F H Q (match pd x with | some d => shownV d | none => .no)) : rRep X [v] H Q := by
  obtain ⟨a, rfl⟩ := hv
  split at p
  · rename_i d hd
    unfold shownV at p
    split at p
    · rename_i hh
      exact ⟨a, d, rfl, hh.1, hh.2.1, hh.2.2, pd_plain hd, fun pins σ s I => (rep_reads hK I hs rv rfl hd).1, p.done hs rfl⟩
    · exact p.elim
  · exact p.elim
theorem cv_repr {k : Nat} {mo : List Val → Res Val} (hK : X.K = c.G.K) : CallV c (fun xs H Q => rRep X xs H Q ∨ rTxt (c.G.cls k) (spM c.G 1 mo) c.E xs H Q) (bRepr k mo) := by
  intro xs vs F H Q hs r p
  unfold bRepr at p
  split at p
  · rename_i k' fs
    split at p
    · rename_i hh
      subst hh
      obtain ⟨v, rfl, rv⟩ := repL1 r
      have rv0 := rv
      obtain ⟨a, dx, ws, rfl, hF, _⟩ := rep_obj rv
      exact .inr ⟨a, dx, _, rfl, hs _ _ hF, spM1 hs rv0 (post_asS p)⟩
    · exact p.elim
  · obtain ⟨v, rfl, rv⟩ := repL1 r
    exact .inl (rRep_of hK hs rv (by obtain ⟨a, _, e, _⟩ := rep_lst rv; exact ⟨a, e⟩) p)
  · obtain ⟨v, rfl, rv⟩ := repL1 r
    exact .inl (rRep_of hK hs rv (by obtain ⟨a, _, e, _⟩ := rep_tup rv; exact ⟨a, e⟩) p)
  · exact p.elim

/-! ### texts put together -/
def sadd : Val → Val → Res Val
  | .str a, .str b => if a.length + b.length ≤ sizeLine then .ok (.str (a ++ b)) else .no
  | x, y => iadd x y
theorem ov_sadd : OpV c (fun x y H Q => (∃ i j, x = .str i ∧ y = .str j ∧ i.length + j.length ≤ sizeLine ∧ Q (.str (i ++ j)) H) ∨ rI0 (fun i j => .int (i + j)) x y H Q) sadd := by
  intro x y v w F H Q hs rx ry p
  unfold sadd at p
  split at p
  · cases rx; cases ry
    split at p
    · rename_i hh
      exact .inl ⟨_, _, rfl, rfl, hh, p.done hs rfl⟩
    · exact p.elim
  · exact .inr (ov_add x y v w F H Q hs rx ry p)
/-- {e} in an f-string -/
def fmtV : Val → Res Val
  | .str s => if s.length ≤ sizeLine then .ok (.str s) else .no
  | .int a => strZ a
  | _ => .no
section
variable {e e1 e2 : Expr} {es : List Expr} {te t1 t2 : TE} {ts : List TE} {ρ : Ros} {m m1 m2 : Res Val} {pos : Pos}
theorem x_fmt (h : EX c X e te ρ m) : EX c X (.FormattedValue e (-1) none pos) (tFmt te) ρ (m >>= fmtV) := by
  refine ⟨pe_fmt h.pe, fun σ F H Q s p => h.ev σ F H _ s ?_⟩
  cases m with
  | err e => exact p
  | no => exact p
  | ok x =>
    intro v F1 H1 g1 r1
    have p1 : PostV c F1 H1 Q (fmtV x) := PostX.grow g1 p
    cases x with
    | str s =>
      cases r1
      simp only [fmtV] at p1
      split at p1
      · rename_i hh
        exact .inl ⟨_, rfl, hh, p1.done g1.fh rfl⟩
      · exact p1.elim
    | int a =>
      cases r1
      simp only [fmtV, strZ] at p1
      split at p1
      · rename_i hh
        exact .inr ⟨_, rfl, hh, p1.done g1.fh rfl⟩
      · exact p1.elim
    | _ => exact p1.elim
/-- the parts, one behind the other -/
inductive EJ (c : Cxt) (X : Cx) (ρ : Ros) : List Expr → List TE → List (Res Val) → Prop where
  | nil : EJ c X ρ [] [] []
  | cons {e : Expr} {t : TE} {m : Res Val} {es : List Expr} {ts : List TE} {ms : List (Res Val)} (h : EX c X e t ρ m) (r : EJ c X ρ es ts ms) : EJ c X ρ (e :: es) (t :: ts) (m :: ms)
def joinS : Str → List (Res Val) → Res Val
  | acc, [] => .ok (.str acc)
  | acc, m :: ms => m >>= fun x => match x with
    | .str s => if (acc ++ s).length ≤ sizeLine then joinS (acc ++ s) ms else .no
    | _ => .no
theorem EJ.pj {ms : List (Res Val)} (h : EJ c X ρ es ts ms) : PJ X es ts := by
  induction h with
  | nil => exact .nil
  | cons h _ ih => exact .cons h.pe ih
theorem EJ.ev {ms : List (Res Val)} (h : EJ c X ρ es ts ms) : ∀ (acc : Str) (σ : L2.St) (F H : Hp) (Q : VK), At c F H σ ρ → PostV c F H Q (joinS acc ms) → tJs ts acc σ H fun out H1 => Q (.str out) H1 := by
  induction h with
  | nil => exact fun acc σ F H Q s p => p.done s.sub rfl
  | @cons e t m es ts ms h _ ih =>
    intro acc σ F H Q s p
    refine h.ev σ F H _ s ?_
    unfold joinS at p
    cases m with
    | err e => exact p
    | no => exact p
    | ok x =>
      intro v F1 H1 g1 r1
      cases x with
      | str y =>
        cases r1
        have p1 : PostV c F1 H1 Q (if (acc ++ y).length ≤ sizeLine then joinS (acc ++ y) ms else .no) := PostX.grow g1 p
        split at p1
        · rename_i hh
          exact ⟨y, rfl, hh, ih _ σ F1 H1 Q (s.grow g1) p1⟩
        · exact p1.elim
      | _ => exact p.elim
theorem x_joined {ms : List (Res Val)} (h : EJ c X ρ (e1 :: e2 :: es) ts ms) : EX c X (.JoinedStr (e1 :: e2 :: es) pos) (fun σ H Q => tJs ts Str.empty σ H fun out H1 => Q (.str out) H1) ρ (joinS Str.empty ms) :=
  ⟨pe_joined h.pj, fun σ F H Q s p => h.ev Str.empty σ F H Q s p⟩
end
end
end Mir
namespace Mir
open PySem PySem.Spec PyProof.Rows L2

/-! ### expressions that change one list, kept at one slot: xs is what it holds -/
abbrev FM (α : Type) := List Val → Res (α × List Val)
/-- no list is lent -/
def isPot : Option Ent → Bool
  | some (.pot _) => true
  | _ => false
def noPot (ρ : Ros) : Bool := ρ.all fun e => !isPot e
theorem noPot_at {ρ : Ros} (h : noPot ρ = true) {j : Nat} {ys : List Val} (e : ρ[j]? = some (some (.pot ys))) : False := by
  have := List.all_eq_true.mp h _ (List.mem_of_getElem? e)
  cases this
theorem mut_pot : ¬ (Ent.mut = Ent.pot) := fun z => by
  have := congrFun z []
  cases this
/-- the slot k holds the list, as w says -/
structure PotAt (ρ : List Val → Ros) (k : Nat) (w : List Val → Ent) : Prop where
  at_ : ∀ xs, (ρ xs)[k]? = some (some (w xs))
  put : ∀ xs ys, (ρ xs).set k (some (w ys)) = ρ ys
  kind : w = Ent.mut ∨ w = Ent.pot
  one : w = Ent.pot → ∀ xs, noPot ((ρ xs).set k none) = true
/-- where it stands -/
theorem PotAt.addr {c : Cxt} {F H : Hp} {σ : L2.St} {ρ : List Val → Ros} {k : Nat} {w : List Val → Ent} {xs : List Val} (P : PotAt ρ k w) (s : At c F H σ (ρ xs)) : ∃ a vs, σ[k]? = some (some (.ref a)) ∧ H a = some (.lst vs) ∧ F a = none ∧ vs.length ≤ LIM ∧ RepL c.G F xs vs ∧ (w = Ent.pot → c.p = some a) ∧ (w = Ent.mut → c.H0 a = none) := by
  have hx := P.at_ xs
  rcases P.kind with rfl | rfl
  · obtain ⟨a, vs, e, h1, h2, h3, l, r⟩ := s.muts k xs hx
    exact ⟨a, vs, e, h1, h2, l, r, fun z => absurd z mut_pot, fun _ => h3⟩
  · obtain ⟨a, vs, e0, e, h1, h2, l, r⟩ := s.pots k xs hx
    exact ⟨a, vs, e, h1, h2, l, r, fun _ => e0, fun z => absurd z.symm mut_pot⟩
/-- the list is changed, all else stays -/
theorem PotAt.chg {c : Cxt} {F H F' H' : Hp} {σ : L2.St} {ρ : List Val → Ros} {k : Nat} {w : List Val → Ent} {xs ys : List Val} {a : Addr} {us : List V} (P : PotAt ρ k w) (s : At c F H σ (ρ xs)) (hσ : σ[k]? = some (some (.ref a))) (hF : Same F F') (hs : Same F' H') (hh : ∀ b o, H b = some o → b ≠ a → H' b = some o) (hf : ∀ b o, F' b = some o → F b = some o ∨ H b = none)
    (ha : H' a = some (.lst us)) (hn : F' a = none) (hl : us.length ≤ LIM) (r : RepL c.G F' ys us) : At c F' H' σ (ρ ys) := by
  obtain ⟨a', vs, e, h1, h2, _, _, hp, hm⟩ := P.addr s
  rw [hσ] at e
  cases e
  have free : ∀ b, H' b = none → H b = none := fun b z => by
    cases q : H b with
    | none => rfl
    | some o =>
      by_cases n : b = a
      · subst n; rw [ha] at z; cases z
      · rw [hh b o q n] at z; cases z
  have nf : ∀ b o, H b = some o → F b = none → F' b = none := fun b o h n => by
    cases q : F' b with
    | none => rfl
    | some u => exact (hf b u q).elim (fun z => by rw [n] at z; cases z) fun z => by rw [h] at z; cases z
  have o : ∀ {j : Nat} {y : Ent}, (ρ ys)[j]? = some (some y) → (j = k ∧ y = w ys) ∨ (j ≠ k ∧ (ρ xs)[j]? = some (some y)) := fun {j y} h => by
    rw [← P.put xs ys] at h
    by_cases e : j = k
    · subst e
      by_cases hl : j < (ρ xs).length
      · rw [List.getElem?_set_self hl] at h; cases h; exact .inl ⟨rfl, rfl⟩
      · rw [List.getElem?_eq_none (by simpa using hl)] at h; cases h
    · rw [List.getElem?_set_ne (Ne.symm e)] at h; exact .inr ⟨e, h⟩
  refine ⟨hs, fun b q h n => ?_, fun b z => s.dom b (free b z), fun b q h => ?_, s.ff.trans hF, fun i x h => ?_, fun i zs h => ?_, fun i zs h => ?_, fun i k' zs h => ?_, fun i j zs ws b n h h' q => ?_, s.pdist, s.len⟩
  · have q1 := s.kept b q h n
    by_cases z : b = a
    · subst z
      rcases P.kind with e | e
      · rw [hm e] at h; cases h
      · exact absurd (hp e) n
    · exact hh b q q1 z
  · exact (hf b q h).elim (s.fresh b q) fun z => .inr (s.dom b z)
  · rcases o h with ⟨rfl, e⟩ | ⟨n, h⟩
    · rcases P.kind with z | z <;> (rw [z] at e; cases e)
    · obtain ⟨v, e, q⟩ := s.vals i x h
      exact ⟨v, e, q.mono hF⟩
  · rcases o h with ⟨rfl, e⟩ | ⟨n, h⟩
    · rcases P.kind with z | z
      · rw [z] at e; cases e
        exact ⟨a, us, hσ, ha, hn, hm z, hl, r⟩
      · rw [z] at e; cases e
    · obtain ⟨b, vs', e, q1, q2, q3, q4, q5⟩ := s.muts i zs h
      have hne : b ≠ a := fun z => by
        subst z
        rcases P.kind with z | z
        · exact s.dist i k zs xs b n h (by rw [P.at_ xs, z]) e hσ
        · obtain ⟨u, hu⟩ := s.pdist b (hp z)
          rw [q3] at hu; cases hu
      exact ⟨b, vs', e, hh b _ q1 hne, nf _ _ q1 q2, q3, q4, q5.mono hF⟩
  · rcases o h with ⟨rfl, e⟩ | ⟨n, h⟩
    · rcases P.kind with z | z
      · rw [z] at e; cases e
      · rw [z] at e; cases e
        exact ⟨a, us, hp z, hσ, ha, hn, hl, r⟩
    · obtain ⟨b, vs', e0, e, q1, q2, q3, q4⟩ := s.pots i zs h
      by_cases hne : b = a
      · subst hne
        rcases P.kind with z | z
        · obtain ⟨u, hu⟩ := s.pdist b e0
          rw [hm z] at hu; cases hu
        · exact (noPot_at (P.one z xs) (by rw [List.getElem?_set_ne (Ne.symm n)]; exact h)).elim
      · exact ⟨b, vs', e0, e, hh b _ q1 hne, nf _ _ q1 q2, q3, q4.mono hF⟩
  · rcases o h with ⟨rfl, e⟩ | ⟨n, h⟩
    · rcases P.kind with z | z <;> (rw [z] at e; cases e)
    · obtain ⟨b, dx, vs', e0, e, q1, q2, q3, q4⟩ := s.slfs i k' zs h
      have hne : b ≠ a := fun z => by
        subst z
        rw [h1] at q1; cases q1
      exact ⟨b, dx, vs', e0, e, hh b _ q1 hne, nf _ _ q1 q2, q3, q4.mono hF⟩
  · rcases o h with ⟨rfl, e⟩ | ⟨n1, h1'⟩
    · rcases o h' with ⟨rfl, e'⟩ | ⟨n2, h2'⟩
      · exact absurd rfl n
      · rcases P.kind with z | z
        · rw [z] at e; cases e
          exact s.dist i j xs ws b n (by rw [P.at_ xs, z]) h2' q
        · rw [z] at e; cases e
    · rcases o h' with ⟨rfl, e'⟩ | ⟨n2, h2'⟩
      · rcases P.kind with z | z
        · rw [z] at e'; cases e'
          exact s.dist i j zs xs b n h1' (by rw [P.at_ xs, z]) q
        · rw [z] at e'; cases e'
      · exact s.dist i j zs ws b n h1' h2' q
/-- what a reading's end must give, the list at k as it is then -/
def PostF {α β : Type} (c : Cxt) (rel : Hp → α → β → Prop) (F : Hp) (σ : L2.St) (ρ : List Val → Ros) (Q : β → Hp → Prop) : Res (α × List Val) → Prop
  | .ok r => ∀ v F' H', Same F F' → At c F' H' σ (ρ r.2) → rel F' r.1 v → Q v H'
  | _ => False
def EvF {α β : Type} (c : Cxt) (rel : Hp → α → β → Prop) (t : L2.St → Hp → (β → Hp → Prop) → Prop) (ρ : List Val → Ros) (m : FM α) : Prop := ∀ σ F H Q xs, At c F H σ (ρ xs) → PostF c rel F σ ρ Q (m xs) → t σ H Q
/-- m without the list -/
def fl {α : Type} (m : List Val → Res α) : FM α := fun xs => nx (m xs) >>= fun x => .ok (x, xs)
def fb {α β : Type} (m : FM α) (f : α → FM β) : FM β := fun xs => m xs >>= fun r => f r.1 r.2
def fp {α : Type} (x : α) : FM α := fun xs => .ok (x, xs)
section
variable {α β γ δ : Type} {c : Cxt} {F F' H H' : Hp} {σ : L2.St} {ρ : List Val → Ros} {rel : Hp → α → β → Prop} {rel' : Hp → γ → δ → Prop} {Q : β → Hp → Prop} {Q' : δ → Hp → Prop} {xs : List Val}
theorem PostF.mono {r : Res (α × List Val)} (h : Same F F') (p : PostF c rel F σ ρ Q r) : PostF c rel F' σ ρ Q r := by
  cases r with
  | ok r => exact fun v F1 H1 s => p v F1 H1 (h.trans s)
  | err e => exact p
  | no => exact p
theorem PostF.bind {m : FM α} {f : α → FM γ} (p : PostF c rel' F σ ρ Q' (fb m f xs)) : PostF c rel F σ ρ (fun v H1 => ∃ x ys F1, m xs = .ok (x, ys) ∧ Same F F1 ∧ At c F1 H1 σ (ρ ys) ∧ rel F1 x v ∧ PostF c rel' F1 σ ρ Q' (f x ys)) (m xs) := by
  unfold fb at p
  cases h : m xs with
  | ok r =>
    rw [h] at p
    exact fun v F1 H1 s a q => ⟨r.1, r.2, F1, rfl, s, a, q, PostF.mono s p⟩
  | err e => rw [h] at p; exact p
  | no => rw [h] at p; exact p
/-- a part that leaves the list alone -/
theorem PostF.pure {m : Res α} (a : At c F H σ (ρ xs)) (p : PostF c rel F σ ρ Q (nx m >>= fun x => .ok (x, xs))) : PostX c.G c.E rel F H Q m := by
  cases m with
  | ok x => exact fun v F1 H1 g r => p v F1 H1 g.ff (a.grow g) r
  | err e => exact False.elim p
  | no => exact p
theorem EvF.lift {t : L2.St → Hp → (β → Hp → Prop) → Prop} {m : List Val → Res α} (h : ∀ xs σ F H Q, At c F H σ (ρ xs) → PostX c.G c.E rel F H Q (m xs) → t σ H Q) : EvF c rel t ρ (fl m) := fun σ F H Q xs a p => h xs σ F H Q a (PostF.pure a p)
end
structure EF (c : Cxt) (X : Cx) (e : Expr) (t : TE) (ρ : List Val → Ros) (m : FM Val) : Prop where
  pe : PE X e t
  ev : EvF c (Rep c.G) t ρ m
structure EFT (c : Cxt) (X : Cx) (e : Expr) (t : TT) (ρ : List Val → Ros) (m : FM Bool) : Prop where
  pt : PT X e t
  ev : EvF c (fun _ (a b : Bool) => b = a) t ρ m
structure EFA (c : Cxt) (X : Cx) (es : List Expr) (t : TA) (ρ : List Val → Ros) (m : FM (List Val)) : Prop where
  pa : PA X es t
  ev : EvF c (RepL c.G) t ρ m
section
variable {c : Cxt} {X : Cx} {e a b cnd : Expr} {es : List Expr} {ta tb te : TE} {tt tu : TT} {tA : TA} {ρ : List Val → Ros} {m m1 m2 : FM Val} {mb mb2 : FM Bool} {ml : FM (List Val)} {pos po : Pos} {f : Val → Val → Res Val}
theorem ef_lift {m : List Val → Res Val} (h : ∀ xs, EX c X e te (ρ xs) (m xs)) : EF c X e te ρ (fl m) := ⟨(h []).pe, .lift fun xs => (h xs).ev⟩
theorem eft_lift {m : List Val → Res Bool} (h : ∀ xs, ET c X e tt (ρ xs) (m xs)) : EFT c X e tt ρ (fl m) := ⟨(h []).pt, .lift fun xs => (h xs).ev⟩
theorem efa_lift {m : List Val → Res (List Val)} (h : ∀ xs, EA c X es tA (ρ xs) (m xs)) : EFA c X es tA ρ (fl m) := ⟨(h []).pa, .lift fun xs => (h xs).ev⟩
def fop (f : Val → Val → Res Val) (m1 m2 : FM Val) : FM Val := fb m1 fun x => fb m2 fun y => fl fun _ => f x y
theorem ev_op {r : R2} (hf : OpV c r f) (h1 : EvF c (Rep c.G) ta ρ m1) (h2 : EvF c (Rep c.G) tb ρ m2) : EvF c (Rep c.G) (tOp r ta tb) ρ (fop f m1 m2) := by
  intro σ F H Q xs s p
  refine h1 σ F H _ xs s ?_
  have q := PostF.bind (rel := Rep c.G) p
  cases h : m1 xs with
  | err e => rw [h] at q; exact q
  | no => rw [h] at q; exact q
  | ok r1 =>
    rw [h] at q
    intro v F1 H1 s1 a1 rv
    obtain ⟨x, ys, F1', e1, s1', a1', rv', p1⟩ := q v F1 H1 s1 a1 rv
    refine h2 σ F1' H1 _ ys a1' ?_
    have q2 := PostF.bind (rel := Rep c.G) p1
    cases h' : m2 ys with
    | err e => rw [h'] at q2; exact q2
    | no => rw [h'] at q2; exact q2
    | ok r2 =>
      rw [h'] at q2
      intro w F2 H2 s2 a2 rw'
      obtain ⟨y, zs, F2', e2, s2', a2', rw2, p2⟩ := q2 w F2 H2 s2 a2 rw'
      exact hf x y v w F2' H2 Q a2'.sub (rv'.mono s2') rw2 (PostF.pure a2' p2)
theorem ef_op {op : Operator} {r : R2} (ho : OpR X (binaryOp op) r) (hf : OpV c r f) (h1 : EF c X a ta ρ m1) (h2 : EF c X b tb ρ m2) : EF c X (.BinOp a op b pos) (tOp r ta tb) ρ (fop f m1 m2) := ⟨pe_op ho h1.pe h2.pe, ev_op hf h1.ev h2.ev⟩
theorem ef_cmp {op : CmpOp} {r : R2} (ho : OpR X (compareOp op) r) (hf : OpV c r f) (h1 : EF c X a ta ρ m1) (h2 : EF c X b tb ρ m2) (hm : behindInMarks op b = false := by first | exact nomark _ | rfl) : EF c X (.Compare a [op] [b] pos) (tOp r ta tb) ρ (fop f m1 m2) := ⟨pe_cmpR ho h1.pe h2.pe hm, ev_op hf h1.ev h2.ev⟩
def ftst (m : FM Val) : FM Bool := fb m fun x => fl fun _ => asB x
theorem ev_tst {t : TE} (h : EvF c (Rep c.G) t ρ m) : ∀ σ F H (Q : Bool → Hp → Prop) xs, At c F H σ (ρ xs) → PostF c (fun _ (a b : Bool) => b = a) F σ ρ Q (ftst m xs) → t σ H (fun x H' => ∃ k, x = .bl k ∧ Q k H') := by
  intro σ F H Q xs s p
  refine h σ F H _ xs s ?_
  have q := PostF.bind (rel := Rep c.G) p
  cases h : m xs with
  | err e => rw [h] at q; exact q
  | no => rw [h] at q; exact q
  | ok r1 =>
    rw [h] at q
    intro v F1 H1 s1 a1 rv
    obtain ⟨x, ys, F1', e1, s1', a1', rv', p1⟩ := q v F1 H1 s1 a1 rv
    cases x with
    | bl k =>
      cases rv'
      exact ⟨k, rfl, p1 k F1' H1 (Same.refl _) a1' rfl⟩
    | _ => exact p1.elim
theorem eft_cmp {op : CmpOp} {r : R2} (ho : OpR X (compareOp op) r) (hf : OpV c r f) (h1 : EF c X a ta ρ m1) (h2 : EF c X b tb ρ m2) (hm : behindInMarks op b = false := by first | exact nomark _ | rfl) : EFT c X (.Compare a [op] [b] pos) (tTest (tOp r ta tb)) ρ (ftst (fop f m1 m2)) := ⟨pt_cmpR ho h1.pe h2.pe hm, ev_tst (ev_op hf h1.ev h2.ev)⟩
theorem eft_val (h : EF c X e te ρ m) (he : ∀ whole, isTrue e X.env whole = (do let v ← whole; standAt e.pos; holding [v] (truthy v)) := by intro _; rfl) : EFT c X e (tB te) ρ (ftst m) := ⟨pt_val h.pe he, ev_tst h.ev⟩
def fif {α : Type} (mb : FM Bool) (m1 m2 : FM α) : FM α := fb mb fun k => if k = true then m1 else m2
theorem ef_if (h : EFT c X cnd tt ρ mb) (h1 : EF c X a ta ρ m1) (h2 : EF c X b tb ρ m2) : EF c X (.IfExp cnd a b pos) (tIf tt ta tb) ρ (fif mb m1 m2) := by
  refine ⟨pe_ifExp h.pt h1.pe h2.pe, fun σ F H Q xs s p => h.ev σ F H _ xs s ?_⟩
  have q := PostF.bind (rel := fun _ (a b : Bool) => b = a) p
  cases h : mb xs with
  | err e => rw [h] at q; exact q
  | no => rw [h] at q; exact q
  | ok r1 =>
    rw [h] at q
    intro v F1 H1 s1 a1' rv
    obtain ⟨x, ys, F1', e1, s1', a1, rv', p1⟩ := q v F1 H1 s1 a1' rv
    subst rv'
    by_cases hk : v = true
    · rw [if_pos hk] at p1 ⊢
      exact h1.ev σ F1' H1 Q ys a1 p1
    · rw [if_neg hk] at p1 ⊢
      exact h2.ev σ F1' H1 Q ys a1 p1
theorem efa_nil : EFA c X [] tNil ρ (fp []) := ⟨pa_nil, fun σ F H Q xs s p => p [] F H (Same.refl _) s RepL.nil⟩
def fcons (m : FM Val) (ml : FM (List Val)) : FM (List Val) := fb m fun x => fb ml fun l => fp (x :: l)
theorem efa_cons (h : EF c X e te ρ m) (hr : EFA c X es tA ρ ml) (hs : starEach (e :: es) X.env = (false, eval e X.env) :: starEach es X.env := by rfl) : EFA c X (e :: es) (tCons te tA) ρ (fcons m ml) := by
  refine ⟨pa_cons h.pe hr.pa hs, fun σ F H Q xs s p => h.ev σ F H _ xs s ?_⟩
  have q := PostF.bind (rel := Rep c.G) p
  cases h : m xs with
  | err e => rw [h] at q; exact q
  | no => rw [h] at q; exact q
  | ok r1 =>
    rw [h] at q
    intro v F1 H1 s1 a1 rv
    obtain ⟨x, ys, F1', e1, s1', a1', rv', p1⟩ := q v F1 H1 s1 a1 rv
    refine hr.ev σ F1' H1 _ ys a1' ?_
    have q2 := PostF.bind (rel := RepL c.G) p1
    cases h' : ml ys with
    | err e => rw [h'] at q2; exact q2
    | no => rw [h'] at q2; exact q2
    | ok r2 =>
      rw [h'] at q2
      intro ws F2 H2 s2 a2 rw'
      obtain ⟨y, zs, F2', e2, s2', a2', rw2, p2⟩ := q2 ws F2 H2 s2 a2 rw'
      exact p2 (v :: ws) F2' H2 (Same.refl _) a2' (RepL.cons (rv'.mono s2') rw2)
/-- a new object is laid -/
theorem At.new {F H : Hp} {σ : L2.St} {r : Ros} {q : Addr} {o : HO} (s : At c F H σ r) (hq : H q = none) : At c (upd F q o) (upd H q o) σ r := s.grow (Grow.new s.sub hq)
def ftup (ml : FM (List Val)) : FM Val := fb ml fun l => fl fun _ => mkT l
theorem ef_tup {k} (h : EFA c X es tA ρ ml) : EF c X (.Tuple es k pos) (tTup tA) ρ (ftup ml) := by
  refine ⟨pe_tup h.pa, fun σ F H Q xs s p => h.ev σ F H _ xs s ?_⟩
  have q := PostF.bind (rel := RepL c.G) p
  cases h : ml xs with
  | err e => rw [h] at q; exact q
  | no => rw [h] at q; exact q
  | ok r1 =>
    rw [h] at q
    intro vs F1 H1 s1 a1 rv
    obtain ⟨l, ys, F1', e1, s1', a1', rv', p1⟩ := q vs F1 H1 s1 a1 rv
    have p2 := PostF.pure a1' p1
    unfold mkT at p2
    by_cases hl : l.length ≤ LIM
    · rw [if_pos hl] at p2
      have hv : vs.length ≤ LIM := by rw [rv'.length]; exact hl
      refine ⟨lim_size hv, fun q hq => p2 (.ref q) (upd F1' q (.tup vs)) _ (Grow.new a1'.sub hq) ?_⟩
      simp only [Rep]
      exact ⟨q, vs, rfl, .inl (.inl upd_same), hv, rv'.mono (Grow.new a1'.sub hq).ff⟩
    · rw [if_neg hl] at p2
      exact p2.elim
def flst (ml : FM (List Val)) : FM Val := fb ml fun l => fl fun _ => mkL l
theorem ef_lst (h : EFA c X es tA ρ ml) : EF c X (.List es pos) (tLst tA) ρ (flst ml) := by
  refine ⟨pe_lst h.pa, fun σ F H Q xs s p => h.ev σ F H _ xs s ?_⟩
  have q := PostF.bind (rel := RepL c.G) p
  cases h : ml xs with
  | err e => rw [h] at q; exact q
  | no => rw [h] at q; exact q
  | ok r1 =>
    rw [h] at q
    intro vs F1 H1 s1 a1 rv
    obtain ⟨l, ys, F1', e1, s1', a1', rv', p1⟩ := q vs F1 H1 s1 a1 rv
    have p2 := PostF.pure a1' p1
    unfold mkL at p2
    by_cases hl : l.length ≤ LIM
    · rw [if_pos hl] at p2
      have hv : vs.length ≤ LIM := by rw [rv'.length]; exact hl
      refine ⟨lim_size hv, fun q hq => p2 (.ref q) (upd F1' q (.lst vs)) _ (Grow.new a1'.sub hq) ?_⟩
      simp only [Rep]
      exact ⟨q, vs, rfl, .inl (.inl upd_same), hv, rv'.mono (Grow.new a1'.sub hq).ff⟩
    · rw [if_neg hl] at p2
      exact p2.elim
theorem ef_ix (h1 : EF c X a ta ρ m1) (h2 : EF c X b tb ρ m2) (hK : X.K = c.G.K) (hs : PlainIx b := by intro _ _; rfl) : EF c X (.Subscript a b pos) (tOp (rIx c.G.K) ta tb) ρ (fop vix m1 m2) := by
  refine ⟨?_, ev_op opV_ix h1.ev h2.ev⟩
  rw [← hK]
  exact pe_ix ix_seq h1.pe h2.pe hs
/-- a built-in, called -/
def fcb (f : List Val → Res Val) (ml : FM (List Val)) : FM Val := fb ml fun l => fl fun _ => f l
theorem ef_callR {r : List V → Hp → VK → Prop} {g : List Val → Res Val} (hp : PA X es tA → PE X e (tCB r tA)) (hf : CallV c r g) (h : EFA c X es tA ρ ml) : EF c X e (tCB r tA) ρ (fcb g ml) := by
  refine ⟨hp h.pa, fun σ F H Q xs s p => h.ev σ F H _ xs s ?_⟩
  have q := PostF.bind (rel := RepL c.G) p
  cases h : ml xs with
  | err e => rw [h] at q; exact q
  | no => rw [h] at q; exact q
  | ok r1 =>
    rw [h] at q
    intro vs F1 H1 s1 a1 rv
    obtain ⟨l, ys, F1', e1, s1', a1', rv', p1⟩ := q vs F1 H1 s1 a1 rv
    exact hf l vs F1' H1 Q a1'.sub rv' (PostF.pure a1' p1)
end
end Mir
namespace Mir
open PySem PySem.Spec PyProof.Rows L2

/-! ### a def that changes the list that its caller lends: its first argument -/
/-- mm: from what the list holds and the other arguments to the value and what it holds then -/
def spQ (G : Glo) (n : Nat) (mm : List Val → List Val → Res (Val × List Val)) : Sp := fun vs H Q _ => ∃ F a ws us pot xs, vs = .ref a :: ws ∧ ws.length = n ∧ H a = some (.lst us) ∧ F a = none ∧ us.length ≤ LIM ∧ Same F H ∧ RepL G F pot us ∧ RepL G F xs ws ∧
  match mm pot xs with
  | .ok r => ∀ v F' H' us', Same F F' → Same F' H' → (∀ b o, H b = some o → b ≠ a → H' b = some o) → (∀ b o, F' b = some o → F b = some o ∨ H b = none) → H' a = some (.lst us') → F' a = none → us'.length ≤ LIM → RepL G F' r.2 us' → Rep G F' r.1 v → Q v H'
  | _ => False
/-- how such a def ends -/
def relP (G : Glo) (p : Addr) : Hp → Hp → V → Val × List Val → Prop := fun F H v r => Rep G F r.1 v ∧ ∃ us, H p = some (.lst us) ∧ F p = none ∧ us.length ≤ LIM ∧ RepL G F r.2 us
section
variable {c : Cxt} {X : Cx} {e a b : Expr} {es : List Expr} {ta tb te : TE} {tA : TA} {ρ : List Val → Ros} {m m1 m2 : FM Val} {ml : FM (List Val)} {pos po p0 : Pos} {x y : Str} {j n k : Nat} {f : Addr} {fd : FuncData} {ps : List Str}
theorem kbn_of {K : PySem.W.Frag} (hb : Binds K fd ps []) (hn : ps.length = n) : KBn K fd ps n [] (fun us ws => us) (fun vs zs => vs) := by
  refine ⟨fun s us ws hK l1 l2 => ?_, fun r _ => r⟩
  have := hb s us hK (by rw [List.append_nil, l1, hn])
  rw [List.append_nil] at this
  exact this
/-- what is known of an own def, called by all its arguments -/
structure DfQ (X : Cx) (x : Str) (j : Nat) (f : Addr) (fd : FuncData) (ps : List Str) (sp : Sp) : Prop where
  ok : FnG X.prog X.w X.K X.mg X.base j f fd ps sp
  gd : X.A.guards = some []
  room : Room j X.A
  bd : Binds X.K fd ps []
  mg : X.mg x = some (.ref f)
  kp : PySem.W.keepIn X.K (.ref f) = true
def tCallQ (n : Nat) (sp : Sp) (E : XK) (t : TA) : TE := fun σ H Q => t σ H fun vs H1 => vs.length = n ∧ sp vs H1 Q E
theorem pe_callQ {sp : Sp} {E : XK} (d : DfQ X x j f fd ps sp) (hx : Passes (L2.CX X.prog X.w) X E) (hg : Gl X x) (ha : PA X es tA) (hn : ps.length = n) (ap : AP2 X pos es [] [] tA) (hdb : (x == ("__debug__" : Str)) = false := by decide) : PE X (.Call (.Name x po) es [] pos) (tCallQ n sp E tA) := by
  refine ⟨fun pins s σ H Q I h0 => ?_⟩
  refine wpAny_Call_Name_kw (ld_glob I hg d.mg ?_ hdb)
  exact callwith_any (tK := tNil) (r := fun vs _ H2 => vs.length = n ∧ sp vs H2 Q E) ap ha pk_nil (kF (P := X.prog) (w := X.w) d.kp) I h0 fun us ws vs zs s2 H2 I2 r1 r2 ⟨l1, q2⟩ => ⟨I2.kIn, by
    cases ws with
    | nil => cases r2; exact run_fnGN d.ok d.gd d.room (kbn_of d.bd hn) hx I2 r1 (.nil : Vals [] []) l1 rfl q2
    | cons w ws => exact run_fnGN (zs := []) (ws := []) d.ok d.gd d.room (kbn_of d.bd hn) hx I2 r1 .nil l1 rfl q2⟩
/-- f(..), f a def without effects -/
theorem x_callG {ρ : Ros} {ml : Res (List Val)} {mm : List Val → Res Val} (d : DfQ X x j f fd ps (spM c.G n mm)) (hx : Passes (L2.CX X.prog X.w) X c.E) (hg : Gl X x) (h : EA c X es tA ρ ml) (hn : ps.length = n) (hl : ∀ xs, ml = .ok xs → xs.length = n) (ap : AP2 X pos es [] [] tA) (hdb : (x == ("__debug__" : Str)) = false := by decide) :
    EX c X (.Call (.Name x po) es [] pos) (tCallQ n (spM c.G n mm) c.E tA) ρ (ml >>= mm) := by
  refine ⟨pe_callQ d hx hg h.pa hn ap hdb, fun σ F H Q s p => h.ev σ F H _ s ?_⟩
  cases ml with
  | err e => exact p
  | no => exact p
  | ok xs =>
    intro vs F1 H1 g1 r1
    have hv : vs.length = n := by rw [r1.length]; exact hl xs rfl
    exact ⟨hv, F1, xs, g1.fh, r1, hv, PostX.grow g1 p⟩
theorem ef_callG {mm : List Val → Res Val} (d : DfQ X x j f fd ps (spM c.G n mm)) (hx : Passes (L2.CX X.prog X.w) X c.E) (hg : Gl X x) (h : EFA c X es tA ρ ml) (hn : ps.length = n) (hl : ∀ xs r, ml xs = .ok r → r.1.length = n) (ap : AP2 X pos es [] [] tA) (hdb : (x == ("__debug__" : Str)) = false := by decide) :
    EF c X (.Call (.Name x po) es [] pos) (tCallQ n (spM c.G n mm) c.E tA) ρ (fcb mm ml) := by
  refine ⟨pe_callQ d hx hg h.pa hn ap hdb, fun σ F H Q xs s p => h.ev σ F H _ xs s ?_⟩
  have q := PostF.bind (rel := RepL c.G) p
  cases h : ml xs with
  | err e => rw [h] at q; exact q
  | no => rw [h] at q; exact q
  | ok r1 =>
    rw [h] at q
    intro vs F1 H1 s1 a1 rv
    have hv : vs.length = n := by rw [rv.length]; exact hl xs r1 h
    obtain ⟨l, ys, F1', e1, s1', a1', rv', p1⟩ := q vs F1 H1 s1 a1 rv
    exact ⟨hv, F1', l, a1'.sub, rv', hv, PostF.pure a1' p1⟩
/-- f(pot, ..), f a def that changes it -/
def fcall (mm : List Val → List Val → Res (Val × List Val)) (ml : FM (List Val)) : FM Val := fb ml fun l xs => mm xs l
theorem ef_callP {w : List Val → Ent} {mm : List Val → List Val → Res (Val × List Val)} (P : PotAt ρ k w) (d : DfQ X x j f fd ps (spQ c.G n mm)) (hx : Passes (L2.CX X.prog X.w) X c.E) (hg : Gl X x) (hp : PE X (.Name y p0) (tVar k)) (h : EFA c X es tA ρ ml) (hn : ps.length = n + 1) (hl : ∀ xs r, ml xs = .ok r → r.1.length = n) (ap : AP2 X pos (.Name y p0 :: es) [] [] (tCons (tVar k) tA))
    (hs : starEach (.Name y p0 :: es) X.env = (false, eval (.Name y p0) X.env) :: starEach es X.env := by rfl) (hdb : (x == ("__debug__" : Str)) = false := by decide) :
    EF c X (.Call (.Name x po) (.Name y p0 :: es) [] pos) (tCallQ (n + 1) (spQ c.G n mm) c.E (tCons (tVar k) tA)) ρ (fcall mm ml) := by
  refine ⟨pe_callQ d hx hg (pa_cons hp h.pa hs) hn ap hdb, fun σ F H Q xs s p => ?_⟩
  obtain ⟨a, us, hσ, hH, hF, hul, hur, _⟩ := P.addr s
  refine ⟨.ref a, hσ, h.ev σ F H _ xs s ?_⟩
  have q := PostF.bind (rel := RepL c.G) p
  cases h : ml xs with
  | err e => rw [h] at q; exact q
  | no => rw [h] at q; exact q
  | ok r1 =>
    rw [h] at q
    intro vs F1 H1 s1 a1 rv
    have hv : vs.length = n := by rw [rv.length]; exact hl xs r1 h
    obtain ⟨l, ys, F1', e1, s1', a1', rv', p1⟩ := q vs F1 H1 s1 a1 rv
    obtain ⟨a', us', hσ', hH', hF', hul', hur', _⟩ := P.addr a1'
    rw [hσ] at hσ'
    cases hσ'
    refine ⟨congrArg Nat.succ hv, F1', a, vs, us', ys, l, rfl, hv, hH', hF', hul', a1'.sub, hur', rv', ?_⟩
    show match mm ys l with | .ok r => _ | _ => False
    cases hm : mm ys l with
    | err e => rw [hm] at p1; exact p1
    | no => rw [hm] at p1; exact p1
    | ok r =>
      rw [hm] at p1
      intro v F2 H2 us2 b1 b2 b3 b4 b5 b6 b7 b8 b9
      exact p1 v F2 H2 b1 (P.chg a1' hσ b1 b2 b3 b4 b5 b6 b7 b8) b9
end
end Mir
namespace Mir
open PySem PySem.Spec PyProof.Rows L2

/-! ### statements with such expressions -/
section
variable {α : Type} {c : Cxt} {X : Cx} {rel : Hp → Hp → V → α → Prop} {A Bs rest sts : List Stmt} {t u tr : TS} {ρ : List Val → Ros} {ρ' : Ros} {r r1 r2 : Res α} {N C B : Exit α} {te : TE} {tt : TT} {e cnd tg it : Expr} {m : FM Val} {mb : FM Bool} {st : Stmt} {pos : Pos} {g : TG} {xs : List Val}
/-- from an expression's end to the rest of the body -/
theorem fin_postF {β γ : Type} {rl : Hp → β → γ → Prop} {m : FM β} {f : β → List Val → Res α} {F H : Hp} {σ : L2.St} {Q : VK} {K : γ → Hp → Prop} (s : At c F H σ (ρ xs)) (p : Fin c rel Q F (m xs >>= fun r => f r.1 r.2))
    (hne : ∀ e, m xs ≠ .err e) (h : ∀ x ys v F1 H1, m xs = .ok (x, ys) → Same F F1 → At c F1 H1 σ (ρ ys) → rl F1 x v → Fin c rel Q F1 (f x ys) → K v H1) : PostF c rl F σ ρ K (m xs) := by
  cases hm : m xs with
  | ok r =>
    rw [hm] at p
    exact fun v F1 H1 s1 a1 r1 => h r.1 r.2 v F1 H1 hm s1 a1 r1 (Fin.mono s1 p)
  | err e => exact absurd hm (hne e)
  | no => rw [hm] at p; exact p
/-- no errors -/
def fx {β : Type} (m : Res (β × List Val)) : Res (β × List Val) := nx m
theorem fx_ne {β : Type} {m : Res (β × List Val)} : ∀ e, fx m ≠ .err e := fun e h => by cases m <;> cases h
theorem fx_ok {β : Type} {r : β × List Val} : fx (.ok r) = .ok r := rfl
theorem fin_postX {β γ : Type} {rl : Hp → β → γ → Prop} {m : FM β} {f : β → List Val → Res α} {F H : Hp} {σ : L2.St} {Q : VK} {K : γ → Hp → Prop} (s : At c F H σ (ρ xs)) (p : Fin c rel Q F (fx (m xs) >>= fun r => f r.1 r.2))
    (h : ∀ x ys v F1 H1, m xs = .ok (x, ys) → Same F F1 → At c F1 H1 σ (ρ ys) → rl F1 x v → Fin c rel Q F1 (f x ys) → K v H1) : PostF c rl F σ ρ K (m xs) := by
  cases hm : m xs with
  | ok r =>
    rw [hm] at p
    exact fun v F1 H1 s1 a1 r1 => h r.1 r.2 v F1 H1 hm s1 a1 r1 (Fin.mono s1 p)
  | err e => rw [hm] at p; exact p
  | no => rw [hm] at p; exact p
/-- y = e -/
theorem sb_setF {i : Nat} {f : Val → List Val → Res α} (hp : PS X st (tAsg te (gName i))) (he : EvF c (Rep c.G) te ρ m) (hi : i < c.n) (h : ∀ x ys, SB c X rel rest tr ((ρ ys).set i (some (.val x))) (f x ys) N C B) :
    SB c X rel (st :: rest) (tSeq (tAsg te (gName i)) tr) (ρ xs) (fx (m xs) >>= fun r => f r.1 r.2) N C B := by
  refine ⟨pss_cons hp (h .non xs).ps, fun D Q σ F H hrt hn hc hb s p => ?_⟩
  refine he σ F H _ xs s (fin_postX s p fun x ys v F1 H1 _ s1 a1 r1 p1 => ?_)
  exact (h x ys).bx D Q _ F1 H1 hrt (fun σ2 F2 H2 ρ2 r2 z => hn σ2 F2 H2 ρ2 r2 (s1.trans z)) (fun σ2 F2 H2 ρ2 r2 z => hc σ2 F2 H2 ρ2 r2 (s1.trans z)) (fun σ2 F2 H2 ρ2 r2 z => hb σ2 F2 H2 ρ2 r2 (s1.trans z)) (a1.store hi r1) p1
/-- target = e -/
theorem sb_asgF {f : Val → List Val → Res α} (hp : PS X st (tAsg te g)) (he : EvF c (Rep c.G) te ρ m) (hps : PSs X rest tr) (h : ∀ x ys, GX c g (ρ ys) x (f x ys) (fun ρ' r' => BX c rel tr ρ' r' N C B)) : SB c X rel (st :: rest) (tSeq (tAsg te g) tr) (ρ xs) (fx (m xs) >>= fun r => f r.1 r.2) N C B := by
  refine ⟨pss_cons hp hps, fun D Q σ F H hrt hn hc hb s p => ?_⟩
  refine he σ F H _ xs s (fin_postX s p fun x ys v F1 H1 _ s1 a1 r1 p1 => ?_)
  refine h x ys (Fin c rel Q F1) v σ F1 H1 _ (fun z => z) a1 r1 p1 fun σ2 ρ2 r2 q s2 p2 => ?_
  exact q D Q σ2 F1 H1 hrt (fun σ2 F2 H2 ρ2 r2 z => hn σ2 F2 H2 ρ2 r2 (s1.trans z)) (fun σ2 F2 H2 ρ2 r2 z => hc σ2 F2 H2 ρ2 r2 (s1.trans z)) (fun σ2 F2 H2 ρ2 r2 z => hb σ2 F2 H2 ρ2 r2 (s1.trans z)) s2 p2
/-- if -/
theorem bx_ifF {r1 r2 : List Val → Res α} (he : EFT c X cnd tt ρ mb) (h1 : ∀ ys, BX c rel t (ρ ys) (r1 ys) N C B) (h2 : ∀ ys, BX c rel u (ρ ys) (r2 ys) N C B) : BX c rel (tIfS tt t u) (ρ xs) (fx (mb xs) >>= fun r => if r.1 = true then r1 r.2 else r2 r.2) N C B := by
  intro D Q σ F H hrt hn hc hb s p
  refine he.ev σ F H _ xs s (fin_postX (f := fun x ys => if x = true then r1 ys else r2 ys) s p fun x ys v F1 H1 _ s1 a1 e1 p1 => ?_)
  subst e1
  by_cases hx : v = true
  · rw [if_pos hx] at p1 ⊢
    exact h1 ys D Q σ F1 H1 hrt (fun σ2 F2 H2 ρ2 r2 z => hn σ2 F2 H2 ρ2 r2 (s1.trans z)) (fun σ2 F2 H2 ρ2 r2 z => hc σ2 F2 H2 ρ2 r2 (s1.trans z)) (fun σ2 F2 H2 ρ2 r2 z => hb σ2 F2 H2 ρ2 r2 (s1.trans z)) a1 p1
  · rw [if_neg hx] at p1 ⊢
    exact h2 ys D Q σ F1 H1 hrt (fun σ2 F2 H2 ρ2 r2 z => hn σ2 F2 H2 ρ2 r2 (s1.trans z)) (fun σ2 F2 H2 ρ2 r2 z => hc σ2 F2 H2 ρ2 r2 (s1.trans z)) (fun σ2 F2 H2 ρ2 r2 z => hb σ2 F2 H2 ρ2 r2 (s1.trans z)) a1 p1
theorem sb_guardF {r1 r2 : List Val → Res α} (he : EFT c X cnd tt ρ mb) (hA : ∀ ys, SB c X rel A t (ρ ys) (r1 ys) X0 C B) (hr : ∀ ys, SB c X rel rest tr (ρ ys) (r2 ys) N C B) : SB c X rel (.If cnd A [] pos :: rest) (tSeq (tIfS tt t tNext) tr) (ρ xs) (fx (mb xs) >>= fun r => if r.1 = true then r1 r.2 else r2 r.2) N C B :=
  ⟨pss_cons (ps_if he.pt (hA xs).ps pss_nil) (hr xs).ps, bx_seq (N' := fun ρ' r' => ∃ ys, ρ' = ρ ys ∧ r' = r2 ys) (bx_ifF he (fun ys D Q σ F H hrt hn hc hb s p => (hA ys).bx D Q σ F H hrt (fun _ _ _ _ _ _ z => z.elim) hc hb s p) fun ys => bx_end (Weak.refl _) ⟨ys, rfl, rfl⟩) (by rintro _ _ ⟨ys, rfl, rfl⟩; exact (hr ys).bx)⟩
theorem sb_ifLastF {r1 r2 : List Val → Res α} (he : EFT c X cnd tt ρ mb) (hA : ∀ ys, SB c X rel A t (ρ ys) (r1 ys) N C B) (hB : ∀ ys, SB c X rel Bs u (ρ ys) (r2 ys) N C B) : SB c X rel [.If cnd A Bs pos] (tIfS tt t u) (ρ xs) (fx (mb xs) >>= fun r => if r.1 = true then r1 r.2 else r2 r.2) N C B :=
  ⟨pss_one (ps_if he.pt (hA xs).ps (hB xs).ps), bx_ifF he (fun ys => (hA ys).bx) fun ys => (hB ys).bx⟩
end
/-- return e, the lent list as it is then -/
theorem sb_retP {c : Cxt} {X : Cx} {ρ : List Val → Ros} {m : FM Val} {te : TE} {e : Expr} {pos : Pos} {k : Nat} {xs : List Val} {p0 : Addr} {N C B : Exit (Val × List Val)} (P : PotAt ρ k Ent.pot) (hp : c.p = some p0) (he : EF c X e te ρ m) : SB c X (relP c.G p0) [.Return (some e) pos] (tRet te) (ρ xs) (fx (m xs)) N C B := by
  refine ⟨pss_one (ps_ret he.pe), fun D Q σ F H hrt hn hc hb s p => he.ev σ F H _ xs s ?_⟩
  subst hrt
  cases hm : m xs with
  | err e => rw [hm] at p; exact p
  | no => rw [hm] at p; exact p
  | ok r =>
    rw [hm] at p
    intro v F1 H1 s1 a1 rv
    obtain ⟨a, us, hσ, hH, hF, hl, hu, hpp, _⟩ := P.addr a1
    have e := hpp rfl
    rw [hp] at e
    cases e
    exact p v F1 H1 s1 a1.sub a1.kept a1.fresh ⟨rv, us, hH, hF, hl, hu⟩
/-- return e of a def that calls with its own list, in a def that promises a value alone -/
theorem sb_retF {c : Cxt} {X : Cx} {ρ : List Val → Ros} {m : FM Val} {te : TE} {e : Expr} {pos : Pos} {xs : List Val} {N C B : Exit Val} (he : EF c X e te ρ m) : SB c X (relV c.G) [.Return (some e) pos] (tRet te) (ρ xs) (fx (m xs) >>= fun r => .ok r.1) N C B := by
  refine ⟨pss_one (ps_ret he.pe), fun D Q σ F H hrt hn hc hb s p => he.ev σ F H _ xs s ?_⟩
  subst hrt
  cases hm : m xs with
  | err e => rw [hm] at p; exact p
  | no => rw [hm] at p; exact p
  | ok r =>
    rw [hm] at p
    exact fun v F1 H1 s1 a1 rv => p v F1 H1 s1 a1.sub a1.kept a1.fresh rv
/-- the entry: the lent list, the other arguments -/
def rhoP (n : Nat) (xs : List Val) (pot : List Val) : Ros := some (.pot pot) :: (xs.map (fun x => some (.val x)) ++ List.replicate (n - 1 - xs.length) none)
theorem at_startP {G : Glo} {E : XK} {F H : Hp} {N : List Str} {xs pot : List Val} {vs us : List V} {a : Addr} (h : Same F H) (ha : H a = some (.lst us)) (hF : F a = none) (hul : us.length ≤ LIM) (hur : RepL G F pot us) (r : RepL G F xs vs) (hl : vs.length + 1 ≤ N.length) :
    At ⟨G, E, H, F, some a, N.length⟩ F H (L2.start N (.ref a :: vs)) (rhoP N.length xs pot) := by
  have q : ∀ {i : Nat} {y : Ent}, (rhoP N.length xs pot)[i]? = some (some y) → (i = 0 ∧ y = .pot pot) ∨ ∃ j x, i = j + 1 ∧ xs[j]? = some x ∧ y = .val x := fun {i y} e => by
    unfold rhoP at e
    cases i with
    | zero => simp at e; exact .inl ⟨rfl, e.symm⟩
    | succ j =>
      right
      rw [List.getElem?_cons_succ] at e
      by_cases hi : j < xs.length
      · rw [List.getElem?_append_left (by simpa using hi), List.getElem?_map] at e
        rw [List.getElem?_eq_getElem hi] at e
        simp at e
        exact ⟨j, _, rfl, List.getElem?_eq_getElem hi, e.symm⟩
      · rw [List.getElem?_append_right (by simpa using hi), List.getElem?_replicate] at e
        split at e <;> cases e
  have hs0 : (L2.start N (.ref a :: vs))[0]? = some (some (.ref a)) := by unfold L2.start; simp
  refine ⟨h, fun b o e _ => e, fun b e => e, fun b o e => .inl e, Same.refl _, fun i x e => ?_, fun i xs e => ?_, fun i xs e => ?_, fun i k' xs e => ?_, fun i j xs ys b _ e => ?_, fun b e => ?_, ?_⟩
  · rcases q e with ⟨rfl, e2⟩ | ⟨j, y, rfl, e1, e2⟩
    · cases e2
    · cases e2
      obtain ⟨v, hv, rv⟩ := r.get e1
      refine ⟨v, ?_, rv⟩
      unfold L2.start
      have hi : j < vs.length := (List.getElem?_eq_some_iff.mp hv).1
      rw [List.map_cons, List.cons_append, List.getElem?_cons_succ, List.getElem?_append_left (by simpa using hi), List.getElem?_map, hv]
      rfl
  · rcases q e with ⟨rfl, e2⟩ | ⟨j, y, rfl, e1, e2⟩ <;> cases e2
  · rcases q e with ⟨rfl, e2⟩ | ⟨j, y, rfl, e1, e2⟩
    · cases e2
      exact ⟨a, us, rfl, hs0, ha, hF, hul, hur⟩
    · cases e2
  · rcases q e with ⟨rfl, e2⟩ | ⟨j, y, rfl, e1, e2⟩ <;> cases e2
  · rcases q e with ⟨rfl, e2⟩ | ⟨j, y, rfl, e1, e2⟩ <;> cases e2
  · cases e
    exact ⟨_, ha⟩
  · unfold L2.start
    rw [List.length_append, List.length_map, List.length_replicate]
    show _ = N.length
    simp only [List.length_cons]
    omega
/-- THE RULE for a def that changes the list lent to it -/
theorem fnSP {P : Program} {w : World} {K : PySem.W.Frag} {mg : Str → Option Value} {base : Heap} {G : Glo} {x qual : Str} {st : Stmt} {f : Addr} {fd : FuncData} {N ps : List Str} {k n : Nat} {dvs : List V} {mm : List Val → List Val → Res (Val × List Val)} (Fd : FnD K x qual st dvs f fd) (S : FnScope N ps (defScope st)) (hps : ps.length = n + 1) (d : List Val) (hd : d.length = n)
    (hbody : ∀ (cdv : Value) (A : Around) (outer : List PySem.Env) (s : Shared) (H : Hp) (E : XK), BdG P w k E (cxOf (L2.CX P w) P w K mg base N qual (defScope st) f cdv A outer s H E) →
      ∃ t, ∀ (F0 : Hp) (a : Addr) (xs pot : List Val), xs.length = n → SB ⟨G, E, H, F0, some a, N.length⟩ (cxOf (L2.CX P w) P w K mg base N qual (defScope st) f cdv A outer s H E) (relP G a) (defBody st) t (rhoP N.length xs pot) (mm pot xs) X0 X0 X0) :
    FnG P w K mg base (k + 1) f fd ps (spQ G n mm) := by
  refine fnG_of Fd S (fun vs H Q E h => ?_) (fun cdv A outer s H vs Q E hgd hr h => ?_)
  · obtain ⟨F, a, ws, us, pot, xs, rfl, e, _⟩ := h
    rw [List.length_cons, e, hps]
  · obtain ⟨F, a, ws, us, pot, xs, rfl, e, ha, hF, hul, hs, hur, r, p⟩ := h
    have tk : Takes (cxOf (L2.CX P w) P w K mg base N qual (defScope st) f cdv A outer s H E) (fun cls d _ H => E cls d H) := takes_of rfl rfl rfl rfl
    obtain ⟨t, hb⟩ := hbody cdv A outer s H E ⟨⟨hr, passes_call tk fun _ _ _ _ h => h, tk, passes_of rfl⟩, hgd⟩
    refine ⟨t, (hb F a d [] hd).ps, ?_⟩
    have hl : ws.length + 1 ≤ N.length := by
      have := congrArg List.length S.pre
      rw [List.length_take] at this
      omega
    have s0 := at_startP (G := G) (E := E) (N := N) hs ha hF hul hur r hl
    refine (hb F a xs pot (by rw [← r.length]; exact e)).bx { nx := fun _ H' => Q .non H', rt := Q } Q _ F H rfl (fun _ _ _ _ _ _ z => z.elim) (fun _ _ _ _ _ _ z => z.elim) (fun _ _ _ _ _ _ z => z.elim) s0 ?_
    cases hm : mm pot xs with
    | no => rw [hm] at p; exact p
    | err ex => rw [hm] at p; exact p.elim
    | ok y =>
      rw [hm] at p
      intro v F' H' a1 a2 a3 a4 a5
      obtain ⟨rv, us', h1, h2, h3, h4⟩ := a5
      exact p v F' H' us' a1 a2 (fun b o q n => a3 b o q fun z => n (by cases z; rfl)) a4 h1 h2 h3 h4 rv
end Mir
namespace Mir
open PySem PySem.Spec PyProof.Rows L2

theorem potAt_mut {ρ : Ros} {i : Nat} {xs : List Val} (h : ρ[i]? = some (some (.mut xs))) : PotAt (fun zs => ρ.set i (some (.mut zs))) i Ent.mut ∧ ρ = ρ.set i (some (.mut xs)) := by
  obtain ⟨hi, he⟩ := List.getElem?_eq_some_iff.mp h
  refine ⟨⟨fun zs => by rw [List.getElem?_set_self hi], fun xs ys => by rw [List.set_set], .inl rfl, fun z => absurd z mut_pot⟩, ?_⟩
  rw [← he, List.set_getElem_self]
section
variable {α : Type} {c : Cxt} {X : Cx} {rel : Hp → Hp → V → α → Prop} {A Bs rest sts : List Stmt} {t u tr : TS} {ρ ρ' : Ros} {r r1 r2 : Res α} {N C B : Exit α} {te ta tb : TE} {tt : TT} {tA : TA} {e a b cnd tg it o : Expr} {es : List Expr} {m m1 m2 : Res Val} {mb : Res Bool} {ml : Res (List Val)} {st : Stmt} {pos p1 apos cpos : Pos} {g : TG} {xs : List Val} {i j k : Nat}
/-- a list that is done with is held fast -/
theorem sb_freeze (hi : ρ[i]? = some (some (.mut xs))) (h : SB c X rel sts t (ρ.set i (some (.val (.lst xs)))) r N C B) : SB c X rel sts t ρ r N C B := ⟨h.ps, bx_freeze hi h.bx⟩
theorem sb_weak (w : Weak ρ ρ') (h : SB c X rel sts t ρ' r N C B) : SB c X rel sts t ρ r N C B := ⟨h.ps, bx_weak w h.bx⟩
/-- y.append(e), y still being changed -/
theorem sb_append {f : List Val → Res α} (ho : PE X o (tVar i)) (hi : ρ[i]? = some (some (.mut xs))) (he : EX c X e te ρ m) (hl : xs.length < LIM) (h : ∀ x, SB c X rel rest tr (ρ.set i (some (.mut (xs ++ [x])))) (f (xs ++ [x])) N C B)
    (hs : swapsWith (.Call (.Attribute o "append" apos) [e] [] cpos) none pos.line X.env = pure false := by rfl) (hbase : attributeBase o "append" X.env (eval o X.env) = eval o X.env := by rfl)
    (hfew : ((backTo cpos (starEach [e] X.env)).all (fun x => !x.1) && (backToKw cpos (keywordEach [] X.env)).all (fun x => x.1.isSome) && decide (([e] : List Expr).length + ([] : List Keyword).length + (if ([] : List Keyword).isEmpty then 0 else 1) < 30)) = true := by rfl)
    (hline : (apos.endLine == cpos.line) = true := by rfl) (hst : starEach [e] X.env = (false, eval e X.env) :: starEach [] X.env := by rfl) (hplain : (backTo cpos (starEach [] X.env)).any (·.1) = false := by rfl) :
    SB c X rel (.Expr (.Call (.Attribute o "append" apos) [e] [] cpos) pos :: rest) (tSeq (tDrop (tBM X.K "list" rAppend (tVar i) (tCons te tNil))) tr) ρ (m >>= fun x => f (xs ++ [x])) N C B := by
  refine ⟨pss_cons (ps_expr (pe_bm PySem.F.plainAttrs_list PySem.F.slot_list_append PySem.F.type_list_append mt_append ho (pa_cons he.pe pa_nil hst) hbase hfew hline hst hplain) hs) (h .non).ps, fun D Q σ F H hrt hn hc hb s p => ?_⟩
  obtain ⟨P, eρ⟩ := potAt_mut hi
  obtain ⟨a, us, hσ, hH, hF, hul, hur, _⟩ := P.addr (xs := xs) (by rw [← eρ]; exact s)
  refine ⟨.ref a, hσ, .inl ⟨rfl, us, SqL.of hH⟩, ?_⟩
  refine he.ev σ F H _ s (fin_post s p fun x v F1 H1 _ gg s1 r1 p1 => ?_)
  obtain ⟨a', us', hσ', hH', hF', hul', hur', _⟩ := P.addr (xs := xs) (by rw [← eρ]; exact s1)
  rw [hσ] at hσ'
  cases hσ'
  have hlen : us'.length = xs.length := hur'.length
  have hsz : us'.length < sizeLine := Nat.lt_of_lt_of_le (by rw [hlen]; exact hl) (by decide)
  refine ⟨a, us', v, rfl, rfl, hH', hsz, ?_⟩
  refine (h x).bx D Q σ F1 _ hrt (fun σ2 F2 H2 ρ2 r2 z => hn σ2 F2 H2 ρ2 r2 (gg.ff.trans z)) (fun σ2 F2 H2 ρ2 r2 z => hc σ2 F2 H2 ρ2 r2 (gg.ff.trans z)) (fun σ2 F2 H2 ρ2 r2 z => hb σ2 F2 H2 ρ2 r2 (gg.ff.trans z)) ?_ p1
  have s1' : At c F1 H1 σ (ρ.set i (some (.mut xs))) := by rw [← eρ]; exact s1
  refine P.chg s1' hσ (Same.refl _) (fun b o e => ?_) (fun b o e n => by rw [upd_ne n]; exact e) (fun b o e => .inl e) upd_same hF' (by rw [List.length_append]; simp; omega) (hur'.append (RepL.cons r1 RepL.nil))
  have hb' : b ≠ a := fun z => by subst z; rw [hF'] at e; cases e
  rw [upd_ne hb']
  exact s1.sub _ _ e
/-- y = [..], to be changed -/
theorem sb_setM {f : List Val → Res α} {y : Str} {py : Pos} (hp : PE X (.List es p1) (tLst tA) → PS X (.Assign [.Name y py] (.List es p1) pos) (tAsg (tLst tA) (gName i))) (he : EA c X es tA ρ ml) (hi : i < c.n) (hl : ∀ xs, ml = .ok xs → xs.length ≤ LIM) (h : ∀ xs, SB c X rel rest tr (ρ.set i (some (.mut xs))) (f xs) N C B) :
    SB c X rel (.Assign [.Name y py] (.List es p1) pos :: rest) (tSeq (tAsg (tLst tA) (gName i)) tr) ρ (ml >>= f) N C B := by
  refine ⟨pss_cons (hp (pe_lst he.pa)) (h []).ps, fun D Q σ F H hrt hn hc hb s p => he.ev σ F H _ s ?_⟩
  cases ml with
  | err e =>
    intro cl d F1 H1 g ee
    have s1 := s.grow g
    exact p cl d F1 H1 g.ff g.fh s1.kept s1.fresh ee
  | no => exact p
  | ok xs =>
    intro vs F1 H1 g r1
    have s1 := s.grow g
    have hv : vs.length ≤ LIM := by rw [r1.length]; exact hl xs rfl
    refine ⟨lim_size hv, fun q hq => ?_⟩
    have g2 : At c F1 (upd H1 q (.lst vs)) σ ρ := s1.grow ⟨Same.refl _, fun a o e => by rw [upd_ne (ne_of_none (g.fh _ _ e) hq)]; exact g.fh _ _ e, fun a o e => by rw [upd_ne (ne_of_none e hq)]; exact e, fun a o e => .inl e⟩
    refine (h xs).bx D Q _ F1 _ hrt (fun σ2 F2 H2 ρ2 r2 z => hn σ2 F2 H2 ρ2 r2 (g.ff.trans z)) (fun σ2 F2 H2 ρ2 r2 z => hc σ2 F2 H2 ρ2 r2 (g.ff.trans z)) (fun σ2 F2 H2 ρ2 r2 z => hb σ2 F2 H2 ρ2 r2 (g.ff.trans z)) (g2.storeMut hi upd_same (g.fh.free hq) (s1.dom q hq) hv r1 fun j ys n e z => ?_) (Fin.mono g.ff p)
    obtain ⟨b, ws, e1, e2, _⟩ := s1.muts j ys e
    rw [z] at e1
    cases e1
    rw [hq] at e2
    cases e2
/-- a, b = e1, e2 -/
theorem sb_par2 {f : List Val → Res α} (hp : PS X st (tPar i j tA)) (he : EA c X es tA ρ ml) (hi : i < c.n) (hj : j < c.n) (hl : ∀ xs, ml = .ok xs → xs.length = 2) (h : ∀ x y, SB c X rel rest tr ((ρ.set i (some (.val x))).set j (some (.val y))) (f [x, y]) N C B) : SB c X rel (st :: rest) (tSeq (tPar i j tA) tr) ρ (ml >>= f) N C B := by
  refine ⟨pss_cons hp (h .non .non).ps, fun D Q σ F H hrt hn hc hb s p => he.ev σ F H _ s ?_⟩
  cases ml with
  | err e =>
    intro cl d F1 H1 g ee
    have s1 := s.grow g
    exact p cl d F1 H1 g.ff g.fh s1.kept s1.fresh ee
  | no => exact p
  | ok xs =>
    intro vs F1 H1 g r1
    have s1 := s.grow g
    have hx := hl xs rfl
    match xs, hx with
    | [x, y], _ =>
      obtain ⟨v, w, rfl, rx, ry⟩ := repL2 r1
      exact ⟨v, w, rfl, (h x y).bx D Q _ F1 H1 hrt (fun σ2 F2 H2 ρ2 r2 z => hn σ2 F2 H2 ρ2 r2 (g.ff.trans z)) (fun σ2 F2 H2 ρ2 r2 z => hc σ2 F2 H2 ρ2 r2 (g.ff.trans z)) (fun σ2 F2 H2 ρ2 r2 z => hb σ2 F2 H2 ρ2 r2 (g.ff.trans z)) ((s1.store hi rx).store hj ry) (Fin.mono g.ff p)⟩
theorem sb_par3 {f : List Val → Res α} (hp : PS X st (tPar3 i j k tA)) (he : EA c X es tA ρ ml) (hi : i < c.n) (hj : j < c.n) (hk : k < c.n) (hl : ∀ xs, ml = .ok xs → xs.length = 3) (h : ∀ x y z, SB c X rel rest tr (((ρ.set i (some (.val x))).set j (some (.val y))).set k (some (.val z))) (f [x, y, z]) N C B) : SB c X rel (st :: rest) (tSeq (tPar3 i j k tA) tr) ρ (ml >>= f) N C B := by
  refine ⟨pss_cons hp (h .non .non .non).ps, fun D Q σ F H hrt hn hc hb s p => he.ev σ F H _ s ?_⟩
  cases ml with
  | err e =>
    intro cl d F1 H1 g ee
    have s1 := s.grow g
    exact p cl d F1 H1 g.ff g.fh s1.kept s1.fresh ee
  | no => exact p
  | ok xs =>
    intro vs F1 H1 g r1
    have s1 := s.grow g
    have hx := hl xs rfl
    match xs, hx with
    | [x, y, z], _ =>
      obtain ⟨v, w, u, rfl, rx, ry, rz⟩ := repL3 r1
      exact ⟨v, w, u, rfl, (h x y z).bx D Q _ F1 H1 hrt (fun σ2 F2 H2 ρ2 r2 z => hn σ2 F2 H2 ρ2 r2 (g.ff.trans z)) (fun σ2 F2 H2 ρ2 r2 z => hc σ2 F2 H2 ρ2 r2 (g.ff.trans z)) (fun σ2 F2 H2 ρ2 r2 z => hb σ2 F2 H2 ρ2 r2 (g.ff.trans z)) (((s1.store hi rx).store hj ry).store hk rz) (Fin.mono g.ff p)⟩
/-- while; loop: by how many turns are left at most -/
theorem sb_while {S : Type} {body : List Stmt} {tb : TS} (loop : Nat → S → Res α) (mt : S → Res Bool) (mb : Nat → S → Res α) (mr : S → Res α) (ρh : S → Ros) (n0 : Nat) (s0 : S) (h0 : ∀ s, loop 0 s = .no) (hl : ∀ n s, loop (n + 1) s = iteR (mt s) (mb n s) (mr s)) (hw : Weak ρ (ρh s0)) (hp : PassesOwn (model X.prog X.w) X.A X.env X.xe) (ht : ∀ s, ET c X cnd tt (ρh s) (mt s))
    (hb : ∀ n s, SB c X rel body tb (ρh s) (mb n s) (fun ρ2 r2 => ∃ s', ρ2 = ρh s' ∧ r2 = loop n s') (fun ρ2 r2 => ∃ s', ρ2 = ρh s' ∧ r2 = loop n s') (fun ρ2 r2 => ∃ s', ρ2 = ρh s' ∧ r2 = mr s')) (hd : ∀ s, SB c X rel rest tr (ρh s) (mr s) N C B) :
    SB c X rel (.While cnd body [] pos :: rest) (tSeq (tWhile tt tb) tr) ρ (loop n0 s0) N C B := by
  refine ⟨pss_cons (ps_while hp (ht s0).pt (hb 0 s0).ps) (hd s0).ps, fun D Q σ F H hrt hn hc hbk s p => ?_⟩
  refine ⟨fun m σ H => ∃ st F1, Same F F1 ∧ At c F1 H σ (ρh st) ∧ Fin c rel Q F1 (loop m st), ⟨n0, s0, F, Same.refl _, s.weak hw, p⟩, ?_⟩
  rintro m σ1 H1 ⟨st, F1, hF1, s1, p1⟩
  cases m with
  | zero => rw [h0] at p1; exact p1.elim
  | succ n =>
    rw [hl] at p1
    refine (ht st).ev σ1 F1 H1 _ s1 (fin_postB s1 p1 fun x F2 H2 _ g s2 p2 => ?_)
    have up : Same F F2 := hF1.trans g.ff
    by_cases hx : x = true
    · rw [if_pos hx] at p2 ⊢
      refine ⟨fun σ' H' => ∃ st F1, Same F F1 ∧ At c F1 H' σ' (ρh st) ∧ Fin c rel Q F1 (loop n st), fun σ' H' q => ⟨n, Nat.lt_succ_self n, q⟩, ?_⟩
      refine (hb n st).bx { D with nx := fun σ' H' => ∃ st F1, Same F F1 ∧ At c F1 H' σ' (ρh st) ∧ Fin c rel Q F1 (loop n st), ct := fun σ' H' => ∃ st F1, Same F F1 ∧ At c F1 H' σ' (ρh st) ∧ Fin c rel Q F1 (loop n st), bk := (tr D) } Q σ1 F2 H2 hrt ?_ ?_ ?_ s2 p2
      · rintro σ5 F5 H5 ρ5 r5 z ⟨st', rfl, rfl⟩ s5 p5
        exact ⟨st', F5, up.trans z, s5, p5⟩
      · rintro σ5 F5 H5 ρ5 r5 z ⟨st', rfl, rfl⟩ s5 p5
        exact ⟨st', F5, up.trans z, s5, p5⟩
      · rintro σ5 F5 H5 ρ5 r5 z ⟨st', rfl, rfl⟩ s5 p5
        exact (hd st').bx D Q σ5 F5 H5 hrt (fun σ2 F2 H2 ρ2 r2 z2 => hn σ2 F2 H2 ρ2 r2 ((up.trans z).trans z2)) (fun σ2 F2 H2 ρ2 r2 z2 => hc σ2 F2 H2 ρ2 r2 ((up.trans z).trans z2)) (fun σ2 F2 H2 ρ2 r2 z2 => hbk σ2 F2 H2 ρ2 r2 ((up.trans z).trans z2)) s5 p5
    · rw [if_neg hx] at p2 ⊢
      exact (hd st).bx D Q σ1 F2 H2 hrt (fun σ2 F2 H2 ρ2 r2 z2 => hn σ2 F2 H2 ρ2 r2 (up.trans z2)) (fun σ2 F2 H2 ρ2 r2 z2 => hc σ2 F2 H2 ρ2 r2 (up.trans z2)) (fun σ2 F2 H2 ρ2 r2 z2 => hbk σ2 F2 H2 ρ2 r2 (up.trans z2)) s2 p2
end
end Mir
namespace Mir
open PySem PySem.Spec PyProof.Rows L2

/-! ### a def that hands back a new list, to be changed by its caller -/
def spN (G : Glo) (n : Nat) (mm : List Val → Res (List Val)) : Sp := fun vs H Q _ => ∃ F xs, Same F H ∧ RepL G F xs vs ∧ vs.length = n ∧
  match mm xs with
  | .ok ys => ∀ a F' H' us, Grow F H F' H' → H' a = some (.lst us) → F' a = none → H a = none → us.length ≤ LIM → RepL G F' ys us → Q (.ref a) H'
  | _ => False
def relN (G : Glo) (H0 : Hp) : Hp → Hp → V → List Val → Prop := fun F H v ys => ∃ a us, v = .ref a ∧ H a = some (.lst us) ∧ F a = none ∧ H0 a = none ∧ us.length ≤ LIM ∧ RepL G F ys us
section
variable {c : Cxt} {X : Cx} {ρ : Ros} {e a b o : Expr} {es : List Expr} {te ta tb to : TE} {tA : TA} {m m1 m2 : Res Val} {ml : Res (List Val)} {pos po p1 p2 : Pos} {x : Str} {j n i k : Nat} {f : Addr} {fd : FuncData} {ps : List Str}
/-- return [..] -/
theorem sb_retL {N C B : Exit (List Val)} (he : EA c X es tA ρ ml) (hl : ∀ xs, ml = .ok xs → xs.length ≤ LIM) : SB c X (relN c.G c.H0) [.Return (some (.List es p1)) pos] (tRet (tLst tA)) ρ ml N C B := by
  refine ⟨pss_one (ps_ret (pe_lst he.pa)), fun D Q σ F H hrt hn hc hb s p => he.ev σ F H _ s ?_⟩
  subst hrt
  cases ml with
  | err e =>
    intro cl d F1 H1 g ee
    have s1 := s.grow g
    exact p cl d F1 H1 g.ff g.fh s1.kept s1.fresh ee
  | no => exact p
  | ok xs =>
    intro vs F1 H1 g r1
    have s1 := s.grow g
    have hv : vs.length ≤ LIM := by rw [r1.length]; exact hl xs rfl
    refine ⟨lim_size hv, fun q hq => p (.ref q) F1 _ g.ff (fun a o e => ?_) (fun a o e n => ?_) s1.fresh ⟨q, vs, rfl, upd_same, g.fh.free hq, s1.dom q hq, hv, r1⟩⟩
    · rw [upd_ne (ne_of_none (g.fh _ _ e) hq)]; exact g.fh _ _ e
    · have := s1.kept a o e n
      rw [upd_ne (ne_of_none this hq)]; exact this
theorem fnSN {P : Program} {w : World} {K : PySem.W.Frag} {mg : Str → Option Value} {base : Heap} {G : Glo} {x qual : Str} {st : Stmt} {f : Addr} {fd : FuncData} {N ps : List Str} {k : Nat} {dvs : List V} {mm : List Val → Res (List Val)} (Fd : FnD K x qual st dvs f fd) (S : FnScope N ps (defScope st)) (d : List Val) (hd : d.length = ps.length)
    (hbody : ∀ (cdv : Value) (A : Around) (outer : List PySem.Env) (s : Shared) (H : Hp) (E : XK), BdG P w k E (cxOf (L2.CX P w) P w K mg base N qual (defScope st) f cdv A outer s H E) →
      ∃ t, ∀ (F0 : Hp) (xs : List Val), xs.length = ps.length → SB ⟨G, E, H, F0, none, N.length⟩ (cxOf (L2.CX P w) P w K mg base N qual (defScope st) f cdv A outer s H E) (relN G H) (defBody st) t (rho N.length xs) (mm xs) X0 X0 X0) :
    FnG P w K mg base (k + 1) f fd ps (spN G ps.length mm) := by
  refine fnG_of Fd S (fun vs H Q E h => ?_) (fun cdv A outer s H vs Q E hgd hr h => ?_)
  · obtain ⟨F, xs, _, _, e, _⟩ := h
    exact e
  · obtain ⟨F, xs, hs, r, e, p⟩ := h
    have tk : Takes (cxOf (L2.CX P w) P w K mg base N qual (defScope st) f cdv A outer s H E) (fun cls d _ H => E cls d H) := takes_of rfl rfl rfl rfl
    obtain ⟨t, hb⟩ := hbody cdv A outer s H E ⟨⟨hr, passes_call tk fun _ _ _ _ h => h, tk, passes_of rfl⟩, hgd⟩
    refine ⟨t, (hb (fun _ => none) d hd).ps, ?_⟩
    have hl : vs.length ≤ N.length := by
      have := congrArg List.length S.pre
      rw [List.length_take] at this
      omega
    have s0 := at_start (G := G) (E := E) (N := N) hs r hl
    refine (hb F xs (by rw [← r.length]; exact e)).bx { nx := fun _ H' => Q .non H', rt := Q } Q _ F H rfl (fun _ _ _ _ _ _ z => z.elim) (fun _ _ _ _ _ _ z => z.elim) (fun _ _ _ _ _ _ z => z.elim) s0 ?_
    cases hm : mm xs with
    | no => rw [hm] at p; exact p
    | err ex => rw [hm] at p; exact p.elim
    | ok ys =>
      rw [hm] at p
      intro v F' H' a1 a2 a3 a4 a5
      obtain ⟨a, us, rfl, h1, h2, h3, h4, h5⟩ := a5
      exact p a F' H' us ⟨a1, a2, fun b o q => a3 b o q (fun z => nomatch z), a4⟩ h1 h2 h3 h4 h5
/-- y = f(..), a new list to be changed -/
theorem sb_setN {α : Type} {rel : Hp → Hp → V → α → Prop} {rest : List Stmt} {tr : TS} {N C B : Exit α} {st : Stmt} {mm : List Val → Res (List Val)} {g : List Val → Res α} (d : DfQ X x j f fd ps (spN c.G n mm)) (hx : Passes (L2.CX X.prog X.w) X c.E) (hg : Gl X x) (h : EA c X es tA ρ ml) (hn : ps.length = n) (hl : ∀ xs, ml = .ok xs → xs.length = n) (ap : AP2 X pos es [] [] tA)
    (hp : PE X (.Call (.Name x po) es [] pos) (tCallQ n (spN c.G n mm) c.E tA) → PS X st (tAsg (tCallQ n (spN c.G n mm) c.E tA) (gName i))) (hi : i < c.n) (hr : ∀ ys, SB c X rel rest tr (ρ.set i (some (.mut ys))) (g ys) N C B) (hdb : (x == ("__debug__" : Str)) = false := by decide) :
    SB c X rel (st :: rest) (tSeq (tAsg (tCallQ n (spN c.G n mm) c.E tA) (gName i)) tr) ρ (ml >>= fun xs => nx (mm xs) >>= g) N C B := by
  refine ⟨pss_cons (hp (pe_callQ d hx hg h.pa hn ap hdb)) (hr []).ps, fun D Q σ F H hrt hN hC hB s p => h.ev σ F H _ s ?_⟩
  cases ml with
  | err e =>
    intro cl d F1 H1 g ee
    have s1 := s.grow g
    exact p cl d F1 H1 g.ff g.fh s1.kept s1.fresh ee
  | no => exact p
  | ok xs =>
    intro vs F1 H1 gg r1
    have s1 := s.grow gg
    have hv : vs.length = n := by rw [r1.length]; exact hl xs rfl
    refine ⟨hv, F1, xs, gg.fh, r1, hv, ?_⟩
    have p1 : Fin c rel Q F1 (nx (mm xs) >>= g) := Fin.mono gg.ff p
    cases hm : mm xs with
    | no => rw [hm] at p1; exact p1
    | err e => rw [hm] at p1; exact p1
    | ok ys =>
      rw [hm] at p1
      intro a F2 H2 us g2 h1 h2 h3 h4 h5
      have s2 := s1.grow g2
      have up := gg.ff.trans g2.ff
      refine (hr ys).bx D Q _ F2 H2 hrt (fun σ2 F2 H2 ρ2 r2 z => hN σ2 F2 H2 ρ2 r2 (up.trans z)) (fun σ2 F2 H2 ρ2 r2 z => hC σ2 F2 H2 ρ2 r2 (up.trans z)) (fun σ2 F2 H2 ρ2 r2 z => hB σ2 F2 H2 ρ2 r2 (up.trans z)) (s2.storeMut hi h1 h2 (s1.dom a h3) h4 h5 fun j ys n e z => ?_) (Fin.mono g2.ff p1)
      obtain ⟨b, ws, e1, e2, _⟩ := s1.muts j ys e
      rw [z] at e1
      cases e1
      rw [h3] at e2
      cases e2

/-! ### slices -/
def cutL {α : Type} (xs : List α) (lo hi : Option Int) : List α := (xs.drop (HT.sIx xs.length 0 lo)).take (HT.sIx xs.length xs.length hi - HT.sIx xs.length 0 lo)
theorem cutL_len {α : Type} {xs : List α} {lo hi : Option Int} : (cutL xs lo hi).length ≤ xs.length := by
  unfold cutL
  rw [List.length_take, List.length_drop]
  omega
/-- one end of a slice -/
structure EP1 (c : Cxt) (X : Cx) (e : Option Expr) (t : TO) (ρ : Ros) (m : Res (Option Int)) : Prop where
  po : PO X e t
  ev : ∀ σ F H Q, At c F H σ ρ → PostX c.G c.E (fun _ (a b : Option Int) => b = a) F H Q m → t σ H Q
def oInt (m : Res Val) : Res (Option Int) := m >>= fun v => match v with
  | .int i => .ok (some i)
  | _ => .no
theorem ep_none : EP1 c X none tNoPart ρ (.ok none) := ⟨po_none, fun σ F H Q s p => p.done s.sub rfl⟩
theorem ep_some (h : EX c X e te ρ m) : EP1 c X (some e) (tPart te) ρ (oInt m) := by
  refine ⟨po_some h.pe, fun σ F H Q s p => h.ev σ F H _ s ?_⟩
  unfold oInt at p
  cases m with
  | err e => exact p
  | no => exact p
  | ok x =>
    intro v F1 H1 g r
    cases x with
    | int i =>
      cases r
      exact ⟨i, rfl, p (some i) F1 H1 g rfl⟩
    | _ => exact p.elim
def sliceM (m : Res Val) (l h : Res (Option Int)) : Res Val := m >>= fun x => l >>= fun lo => h >>= fun hi => match x with
  | .lst xs => .ok (.lst (cutL xs lo hi))
  | _ => .no
theorem x_slice {lo hi : Option Expr} {tl th : TO} {ml mh : Res (Option Int)} (hK : X.K = c.G.K) (he : EX c X e te ρ m) (hl : EP1 c X lo tl ρ ml) (hh : EP1 c X hi th ρ mh) : EX c X (.Subscript e (.Slice lo hi none p2) pos) (tSl (rSlL c.G.K) te tl th) ρ (sliceM m ml mh) := by
  refine ⟨by rw [← hK]; exact pe_slice sl_list he.pe hl.po hh.po, fun σ F H Q s p => he.ev σ F H _ s ?_⟩
  unfold sliceM at p
  cases m with
  | err e => exact p
  | no => exact p
  | ok x =>
    intro v F1 H1 g1 r1
    have q1 := PostX.grow g1 p
    refine hl.ev σ F1 H1 _ (s.grow g1) ?_
    cases ml with
    | err e => exact q1
    | no => exact q1
    | ok l =>
      intro l' F2 H2 g2 e2
      subst e2
      have q2 := PostX.grow g2 q1
      refine hh.ev σ F2 H2 _ ((s.grow g1).grow g2) ?_
      cases mh with
      | err e => exact q2
      | no => exact q2
      | ok u =>
        intro u' F3 H3 g3 e3
        subst e3
        have q3 := PostX.grow g3 q2
        cases x with
        | lst xs =>
          obtain ⟨a, vs, rfl, hq, hlen, rl⟩ := rep_lst (r1.mono (g2.ff.trans g3.ff))
          refine ⟨a, vs, rfl, sqL_mono g3.fh hq, fun p hp => ?_⟩
          have g4 := Grow.new (o := .lst (cutV vs l' u')) g3.fh hp
          refine q3 (.ref p) _ _ g4 ?_
          simp only [Rep]
          refine ⟨p, cutV vs l' u', rfl, .inl (.inl upd_same), Nat.le_trans (cutV_length _ _ _) hlen, ?_⟩
          have e := rl.length
          have z := ((rl.drop (HT.sIx vs.length 0 l')).take (HT.sIx vs.length vs.length u' - HT.sIx vs.length 0 l')).mono g4.ff
          unfold cutV cutL
          rw [← e]
          exact z
        | _ => exact q3.elim
/-! ### is, is not, of bools -/
def vIsB : Val → Val → Res Val
  | .bl a, .bl b => .ok (.bl (decide (a = b)))
  | _, _ => .no
def vNotB : Val → Val → Res Val
  | .bl a, .bl b => .ok (.bl (!decide (a = b)))
  | _, _ => .no
theorem ov_isB : OpV c rIsB vIsB := by
  intro x y v w F H Q hs rx ry p
  unfold vIsB at p
  split at p
  · cases rx; cases ry
    exact ⟨_, _, rfl, rfl, p.done hs rfl⟩
  · exact p.elim
theorem ov_notB : OpV c rNotB vNotB := by
  intro x y v w F H Q hs rx ry p
  unfold vNotB at p
  split at p
  · cases rx; cases ry
    exact ⟨_, _, rfl, rfl, p.done hs rfl⟩
  · exact p.elim
end

/-! ### y[i] = e; y[0], d = divmod(y[0], e) -/
section
variable {α : Type} {c : Cxt} {X : Cx} {rel : Hp → Hp → V → α → Prop} {rest : List Stmt} {tr : TS} {ρ : List Val → Ros} {N C B : Exit α} {te ti : TE} {e o ie : Expr} {m : FM Val} {st : Stmt} {pos : Pos} {xs : List Val} {i k : Nat} {w : List Val → Ent}
/-- the items with one put in -/
def putI (xs : List Val) (i v : Val) (f : List Val → Res α) : Res α := match i with
  | .int j => (match ixN xs.length j with
    | some n => f (xs.set n v)
    | none => .no)
  | _ => .no
theorem sb_put {mi : Res Val} {f : List Val → Res α} (P : PotAt ρ k w) (hp : PS X st (tAsg te (gSub (tVar k) ti rSetL))) (he : EvF c (Rep c.G) te ρ m) (hi : ∀ ys σ F H Q, At c F H σ (ρ ys) → PostV c F H Q mi → ti σ H Q) (hps : PSs X rest tr) (h : ∀ ys, SB c X rel rest tr (ρ ys) (f ys) N C B) :
    SB c X rel (st :: rest) (tSeq (tAsg te (gSub (tVar k) ti rSetL)) tr) (ρ xs) (fx (m xs) >>= fun r => mi >>= fun i => putI r.2 i r.1 f) N C B := by
  refine ⟨pss_cons hp hps, fun D Q σ F H hrt hn hc hb s p => ?_⟩
  refine he σ F H _ xs s (fin_postX (f := fun x ys => mi >>= fun i => putI ys i x f) s p fun x ys v F1 H1 _ s1 a1 r1 p1 => ?_)
  obtain ⟨a, us, hσ, hH, hF, hul, hur, _⟩ := P.addr a1
  refine ⟨.ref a, hσ, hi ys σ F1 H1 _ a1 (fin_post a1 p1 fun y u F2 H2 _ g a2 r2 p2 => ?_)⟩
  cases y with
  | int j =>
    cases r2
    unfold putI at p2
    dsimp only at p2
    split at p2
    · rename_i n hn'
      obtain ⟨a', us', hσ', hH', hF', hul', hur', _⟩ := P.addr a2
      rw [hσ] at hσ'
      cases hσ'
      have el := hur'.length
      refine ⟨a, us', j, n, rfl, rfl, hH', by rw [el]; exact hn', ?_⟩
      have up := s1.trans g.ff
      refine (h _).bx D Q σ F2 _ hrt (fun σ2 F2 H2 ρ2 r2 z => hn σ2 F2 H2 ρ2 r2 (up.trans z)) (fun σ2 F2 H2 ρ2 r2 z => hc σ2 F2 H2 ρ2 r2 (up.trans z)) (fun σ2 F2 H2 ρ2 r2 z => hb σ2 F2 H2 ρ2 r2 (up.trans z)) ?_ p2
      refine P.chg a2 hσ (Same.refl _) (fun b o e => ?_) (fun b o e n => by rw [upd_ne n]; exact e) (fun b o e => .inl e) upd_same hF' (by rw [List.length_set]; exact hul') (hur'.set n (r1.mono g.ff))
      have hb' : b ≠ a := fun z => by subst z; rw [hF'] at e; cases e
      rw [upd_ne hb']
      exact a2.sub _ _ e
    · exact p2.elim
  | _ => exact p2.elim
/-- the lowest digit is taken off the first item -/
def digitR (xs : List Val) (y : Val) (f : Val → List Val → Res α) : Res α := match xs, y with
  | .int p :: r, .int n => if 0 < n ∧ n.natAbs.log2 < 9000 then f (.int (p % n)) (.int (p / n) :: r) else .no
  | _, _ => .no
theorem sb_digit {y : Val} {f : Val → List Val → Res α} (P : PotAt ρ k w) (hK : X.K = c.G.K)
    (hp : PS X st (tAsg (tCB (fun xs H Q => ∃ i j, xs = [.int i, .int j] ∧ CDivP i j ∧ ∀ p, H p = none → Q (.ref p) (upd H p (.tup [.int (i / j), .int (i % j)]))) (tCons (tOp (rIxL X.K) (tVar k) (tC (.int 0))) (tCons ti tNil))) (gTup X.K 2 (gCons (gSub (tVar k) (tC (.int 0)) rSetL) (gCons (gName i) gNil)))))
    (hik : i ≠ k) (hin : i < c.n) (hi : ∀ σ F H Q, At c F H σ (ρ xs) → PostV c F H Q (.ok y) → ti σ H Q) (hps : PSs X rest tr) (h : ∀ y ys, SB c X rel rest tr ((ρ ys).set i (some (.val y))) (f y ys) N C B) :
    SB c X rel (st :: rest) (tSeq (tAsg (tCB (fun xs H Q => ∃ i j, xs = [.int i, .int j] ∧ CDivP i j ∧ ∀ p, H p = none → Q (.ref p) (upd H p (.tup [.int (i / j), .int (i % j)]))) (tCons (tOp (rIxL X.K) (tVar k) (tC (.int 0))) (tCons ti tNil))) (gTup X.K 2 (gCons (gSub (tVar k) (tC (.int 0)) rSetL) (gCons (gName i) gNil)))) tr) (ρ xs) (digitR xs y f) N C B := by
  refine ⟨pss_cons hp hps, fun D Q σ F H hrt hn hc hb s p => ?_⟩
  obtain ⟨a, us, hσ, hH, hF, hul, hur, _⟩ := P.addr s
  refine ⟨.ref a, hσ, ?_⟩
  unfold digitR at p
  split at p
  · rename_i p0 r n
    split at p
    · rename_i hh
      simp only [RepL] at hur
      obtain ⟨v0, vs0, rfl, rz, rzs⟩ := hur
      cases rz
      refine ⟨a, _, 0, .int p0, rfl, rfl, SqL.of hH, by simp [atI, ixN], ?_⟩
      refine hi σ F H _ s fun v F1 H1 g rv => ?_
      cases rv
      refine ⟨p0, n, rfl, ⟨hh.1, PyProof.noPylong_of_log2 hh.2⟩, fun q hq => ?_⟩
      have s1 := s.grow g
      have hH1 := g.hh _ _ hH
      have hF1 : F1 a = none := by
        cases z : F1 a with
        | none => rfl
        | some u => exact (g.fr a u z).elim (fun z => by rw [hF] at z; cases z) fun z => by rw [hH] at z; cases z
      have hne : a ≠ q := fun z => by subst z; rw [hH1] at hq; cases hq
      refine ⟨q, [.int (p0 / n), .int (p0 % n)], rfl, .inl (.inl upd_same), rfl, .int (p0 / n), [.int (p0 % n)], rfl, ?_⟩
      refine ⟨.ref a, hσ, a, V.int p0 :: vs0, 0, 0, rfl, rfl, by rw [upd_ne hne]; exact hH1, by simp [ixN], ?_⟩
      refine ⟨.int (p0 % n), [], rfl, rfl, ?_⟩
      have g2 : Grow F1 H1 F1 (upd H1 q (.tup [.int (p0 / n), .int (p0 % n)])) := ⟨Same.refl _, fun b o e => by rw [upd_ne (ne_of_none (g.fh _ _ e) hq)]; exact g.fh _ _ e, fun b o e => by rw [upd_ne (ne_of_none e hq)]; exact e, fun b o e => .inl e⟩
      have s2 := s1.grow g2
      have s3 : At c F1 (upd (upd H1 q (.tup [.int (p0 / n), .int (p0 % n)])) a (.lst (V.int (p0 / n) :: vs0))) σ (ρ (.int (p0 / n) :: r)) := by
        refine P.chg s2 hσ (Same.refl _) (fun b o e => ?_) (fun b o e nb => by rw [upd_ne nb]; exact e) (fun b o e => .inl e) upd_same hF1 hul (RepL.cons rfl (rzs.mono g.ff))
        have hb' : b ≠ a := fun z => by subst z; rw [hF1] at e; cases e
        rw [upd_ne hb']
        exact s2.sub _ _ e
      exact (h _ _).bx D Q _ F1 _ hrt (fun σ2 F2 H2 ρ2 r2 z => hn σ2 F2 H2 ρ2 r2 (g.ff.trans z)) (fun σ2 F2 H2 ρ2 r2 z => hc σ2 F2 H2 ρ2 r2 (g.ff.trans z)) (fun σ2 F2 H2 ρ2 r2 z => hb σ2 F2 H2 ρ2 r2 (g.ff.trans z)) (s3.store (x := .int (p0 % n)) hin rfl) (Fin.mono g.ff p)
    · exact p.elim
  · exact p.elim
end
end Mir
namespace Mir
open PySem PySem.Spec PyProof.Rows L2

/-! ### loops over what is worked out with the list's help -/
structure EIF (c : Cxt) (X : Cx) (tg it : Expr) (wi : TI) (ρ : List Val → Ros) (m : FM (List Val)) : Prop where
  pi : PI X tg it wi
  ev : EvF c (Wlk c.G) wi ρ m
section
variable {c : Cxt} {X : Cx} {tg e a b it : Expr} {ta tb te : TE} {tA : TA} {ρ : List Val → Ros} {ml : FM (List Val)} {pos : Pos} {wi : TI}
theorem eif_lift {m : List Val → Res (List Val)} (h : ∀ xs, EI c X tg it wi (ρ xs) (m xs)) : EIF c X tg it wi ρ (fl m) := ⟨(h []).pi, .lift fun xs => (h xs).ev⟩
def frng1 (ml : FM (List Val)) : FM (List Val) := fb ml fun l => fl fun _ => rng1 l
theorem eif_rng1 {p : Pos} (hg : Gl X "range") (hm : X.mg "range" = none) (h : EFA c X [a] tA ρ ml) (hs : starEach [a] X.env = [(false, eval a X.env)] := by rfl) : EIF c X tg (.Call (.Name "range" p) [a] [] pos) (iRng1 tA) ρ (frng1 ml) := by
  refine ⟨pi_range1 hg hm h.pa hs, fun σ F H R xs s p => h.ev σ F H _ xs s ?_⟩
  have q := PostF.bind (rel := RepL c.G) p
  cases h : ml xs with
  | err e => rw [h] at q; exact q
  | no => rw [h] at q; exact q
  | ok r1 =>
    rw [h] at q
    intro vs F1 H1 s1 a1 rv
    obtain ⟨l, ys, F1', e1, s1', a1', rv', p1⟩ := q vs F1 H1 s1 a1 rv
    have p2 := PostF.pure a1' p1
    unfold rng1 at p2
    split at p2
    · rename_i n
      obtain ⟨v, rfl, hv⟩ := repL1 rv'
      cases hv
      unfold rng at p2
      split at p2
      · rename_i hh
        rw [Int.sub_zero] at p2
        exact ⟨n, rfl, hh.2.2.1, hh.2.2.2.1, p2.done a1'.sub wlk_rng⟩
      · exact p2.elim
    · exact p2.elim
/-- for -/
theorem bx_forF {α S : Type} {rel : Hp → Hp → V → α → Prop} {g : TG} {tb tr : TS} {N C B : Exit α} {mi : FM (List Val)} {xs : List Val} (loop : List Val → S → Res α) (ρh : S → Ros) (s0 : List Val → S) (hi : EIF c X tg it wi ρ mi) (hw : ∀ ys, Weak (ρ ys) (ρh (s0 ys)))
    (hb : ∀ x xs s, GX c g (ρh s) x (loop (x :: xs) s) (fun ρ' r' => BX c rel tb ρ' r' (fun ρ2 r2 => ∃ s', ρ2 = ρh s' ∧ r2 = loop xs s') (fun ρ2 r2 => ∃ s', ρ2 = ρh s' ∧ r2 = loop xs s') (fun ρ2 r2 => ∃ s', ρ2 = ρh s' ∧ r2 = loop [] s')))
    (hd : ∀ s, BX c rel tr (ρh s) (loop [] s) N C B) : BX c rel (tSeq (tFor wi g tb) tr) (ρ xs) (fx (mi xs) >>= fun r => loop r.1 (s0 r.2)) N C B := by
  intro D Q σ F H hrt hn hc hbk s p
  refine hi.ev σ F H _ xs s (fin_postX (f := fun l ys => loop l (s0 ys)) s p fun l ys J F1 H1 _ s1 a1 wk p1 => ?_)
  have s1' := a1.weak (hw ys)
  refine ⟨fun i m σ H => m = l.length - i ∧ i ≤ l.length ∧ ∃ st F2, Same F1 F2 ∧ At c F2 H σ (ρh st) ∧ Fin c rel Q F2 (loop (l.drop i) st), ⟨_, rfl, Nat.zero_le _, s0 ys, F1, Same.refl _, s1', p1⟩, ?_⟩
  rintro i m σ' H' ⟨rfl, hi, st, F2, hF, s2, p2⟩
  obtain ⟨w1, w2⟩ := wk i F2 H' hF s2.sub hi
  by_cases hlt : i < l.length
  · right
    obtain ⟨hgo, hy⟩ := w2 l[i] (List.getElem?_eq_getElem hlt)
    refine ⟨hgo, fun σ2 H2 => ∃ st F3, Same F1 F3 ∧ At c F3 H2 σ2 (ρh st) ∧ Fin c rel Q F3 (loop (l.drop (i + 1)) st), fun σ2 H2 ⟨st', F3, a1, a2, a3⟩ => ⟨l.length - (i + 1), by omega, rfl, hlt, st', F3, a1, a2, a3⟩, fun v H2 y => ?_⟩
    obtain ⟨F3, g3, rv⟩ := hy v H2 y
    have s3 := s2.grow g3
    rw [List.drop_eq_getElem_cons hlt] at p2
    have p3 : Fin c rel Q F3 (loop (l[i] :: l.drop (i + 1)) st) := Fin.mono g3.ff p2
    refine hb l[i] (l.drop (i + 1)) st (Fin c rel Q F3) v σ' F3 H2 _ (fun z => z) s3 rv p3 fun σ4 ρ4 r4 q4 s4 p4 => ?_
    refine q4 _ Q σ4 F3 H2 hrt ?_ ?_ ?_ s4 p4
    · rintro σ5 F5 H5 ρ5 r5 z ⟨st', rfl, rfl⟩ s5 p5
      exact ⟨st', F5, hF.trans (g3.ff.trans z), s5, p5⟩
    · rintro σ5 F5 H5 ρ5 r5 z ⟨st', rfl, rfl⟩ s5 p5
      exact ⟨st', F5, hF.trans (g3.ff.trans z), s5, p5⟩
    · rintro σ5 F5 H5 ρ5 r5 z ⟨st', rfl, rfl⟩ s5 p5
      have up : Same F F5 := s1.trans (hF.trans (g3.ff.trans z))
      exact hd st' D Q σ5 F5 H5 hrt (fun σ2 F2 H2 ρ2 r2 z => hn σ2 F2 H2 ρ2 r2 (up.trans z)) (fun σ2 F2 H2 ρ2 r2 z => hc σ2 F2 H2 ρ2 r2 (up.trans z)) (fun σ2 F2 H2 ρ2 r2 z => hbk σ2 F2 H2 ρ2 r2 (up.trans z)) s5 p5
  · left
    have e : i = l.length := by omega
    subst e
    refine ⟨w1 rfl, ?_⟩
    rw [List.drop_length] at p2
    have up : Same F F2 := s1.trans hF
    exact hd st D Q σ' F2 H' hrt (fun σ2 F2 H2 ρ2 r2 z => hn σ2 F2 H2 ρ2 r2 (up.trans z)) (fun σ2 F2 H2 ρ2 r2 z => hc σ2 F2 H2 ρ2 r2 (up.trans z)) (fun σ2 F2 H2 ρ2 r2 z => hbk σ2 F2 H2 ρ2 r2 (up.trans z)) s2 p2
theorem sb_forF {α S : Type} {rel : Hp → Hp → V → α → Prop} {g : TG} {tr tb : TS} {rest body : List Stmt} {N C B : Exit α} {mi : FM (List Val)} {xs : List Val} (loop : List Val → S → Res α) (ρh : S → Ros) (s0 : List Val → S) (hi : EIF c X tg it wi ρ mi) (hw : ∀ ys, Weak (ρ ys) (ρh (s0 ys))) (hp : PassesOwn (model X.prog X.w) X.A X.env X.xe) (hcalm : X.calm = true) (hg : PG X tg g) (hbps : PSs X body tb)
    (hb : ∀ x xs s, GX c g (ρh s) x (loop (x :: xs) s) (fun ρ' r' => BX c rel tb ρ' r' (fun ρ2 r2 => ∃ s', ρ2 = ρh s' ∧ r2 = loop xs s') (fun ρ2 r2 => ∃ s', ρ2 = ρh s' ∧ r2 = loop xs s') (fun ρ2 r2 => ∃ s', ρ2 = ρh s' ∧ r2 = loop [] s')))
    (hd : ∀ s, SB c X rel rest tr (ρh s) (loop [] s) N C B) (hs : ∀ x, foldedSetIterable it X.env x = pure x := by intro _; rfl) : SB c X rel (.For tg it body [] pos :: rest) (tSeq (tFor wi g tb) tr) (ρ xs) (fx (mi xs) >>= fun r => loop r.1 (s0 r.2)) N C B :=
  ⟨pss_cons (ps_for hp hcalm hi.pi hg hbps hs) (hd (s0 xs)).ps, bx_forF loop ρh s0 hi hw hb fun s => (hd s).bx⟩
end
end Mir
namespace Mir
open PySem PySem.Spec PyProof.Rows L2

theorem lt_of {i n : Nat} (h : Nat.ble (i + 1) n = true) : i < n := Nat.le_of_ble_eq_true h
theorem le_of {i n : Nat} (h : Nat.ble i n = true) : i ≤ n := Nat.le_of_ble_eq_true h
theorem all0 {P : List Val → Prop} (h : P []) : ∀ xs, xs.length = 0 → P xs
  | [], _ => h
theorem all1 {P : List Val → Prop} (h : ∀ a, P [a]) : ∀ xs, xs.length = 1 → P xs
  | [a], _ => h a
theorem all2 {P : List Val → Prop} (h : ∀ a b, P [a, b]) : ∀ xs, xs.length = 2 → P xs
  | [a, b], _ => h a b
theorem all3 {P : List Val → Prop} (h : ∀ a b d, P [a, b, d]) : ∀ xs, xs.length = 3 → P xs
  | [a, b, d], _ => h a b d
theorem all4 {P : List Val → Prop} (h : ∀ a b d e, P [a, b, d, e]) : ∀ xs, xs.length = 4 → P xs
  | [a, b, d, e], _ => h a b d e
theorem all5 {P : List Val → Prop} (h : ∀ a b d e f, P [a, b, d, e, f]) : ∀ xs, xs.length = 5 → P xs
  | [a, b, d, e, f], _ => h a b d e f
def a5 (f : Val → Val → Val → Val → Val → Res Val) : List Val → Res Val
  | [a, b, c, d, e] => f a b c d e
  | _ => .no
@[simp] theorem a5_ok {f : Val → Val → Val → Val → Val → Res Val} {a b c d e : Val} : a5 f [a, b, c, d, e] = f a b c d e := rfl
/-- of a lent list and others -/
def p0 (f : List Val → Res (Val × List Val)) : List Val → List Val → Res (Val × List Val)
  | pot, [] => f pot
  | _, _ => .no
def p1 (f : List Val → Val → Res (Val × List Val)) : List Val → List Val → Res (Val × List Val)
  | pot, [a] => f pot a
  | _, _ => .no
def p2 (f : List Val → Val → Val → Res (Val × List Val)) : List Val → List Val → Res (Val × List Val)
  | pot, [a, b] => f pot a b
  | _, _ => .no
def p3 (f : List Val → Val → Val → Val → Res (Val × List Val)) : List Val → List Val → Res (Val × List Val)
  | pot, [a, b, c] => f pot a b c
  | _, _ => .no
def n1 (f : Val → Res (List Val)) : List Val → Res (List Val)
  | [a] => f a
  | _ => .no
def n2 (f : Val → Val → Res (List Val)) : List Val → Res (List Val)
  | [a, b] => f a b
  | _ => .no
theorem pick_len {α : Type} {p : List Nat} {l : List α} (h : ∀ i ∈ p, i < l.length) : (pick p l).length = p.length := by
  induction p with
  | nil => rfl
  | cons i p ih =>
    have hi := h i List.mem_cons_self
    unfold pick
    rw [List.filterMap_cons, List.getElem?_eq_getElem hi]
    exact congrArg Nat.succ (ih fun j hj => h j (List.mem_cons_of_mem _ hj))
theorem pick_len2 {p : List Nat} {n m : Nat} {dvs : List V} (h : p.all (fun i => Nat.ble (i + 1) (n + m + dvs.length)) = true) : ∀ vs zs : List V, vs.length = n → zs.length = m → (pick p (vs ++ zs ++ dvs)).length = p.length := fun vs zs h1 h2 => pick_len fun i hi => by
  have := Nat.le_of_ble_eq_true (List.all_eq_true.mp h i hi)
  rw [List.length_append, List.length_append, h1, h2]
  exact this
theorem pick_len3 {p : List Nat} {n m : Nat} {dvs : List V} (h : p.all (fun i => Nat.ble (i + 1) (n + 1 + m + dvs.length)) = true) : ∀ (v : V) (vs zs : List V), vs.length = n → zs.length = m → (pick p (v :: vs ++ zs ++ dvs)).length = p.length := fun v vs zs h1 h2 => pick_len fun i hi => by
  have := Nat.le_of_ble_eq_true (List.all_eq_true.mp h i hi)
  rw [List.length_append, List.length_append, List.length_cons, h1, h2]
  exact this

/-! ### what a list's help gives, then the rest -/
def bindF {β α : Type} (m : Res (β × List Val)) (f : β → List Val → Res α) : Res α := fx m >>= fun r => f r.1 r.2
def iteF {α : Type} (m : Res (Bool × List Val)) (r1 r2 : List Val → Res α) : Res α := fx m >>= fun r => if r.1 = true then r1 r.2 else r2 r.2
@[simp] theorem bindF_ok {β α : Type} {x : β} {ys : List Val} {f : β → List Val → Res α} : bindF (.ok (x, ys)) f = f x ys := rfl
@[simp] theorem iteF_t {α : Type} {ys : List Val} {r1 r2 : List Val → Res α} : iteF (.ok (true, ys)) r1 r2 = r1 ys := rfl
@[simp] theorem iteF_f {α : Type} {ys : List Val} {r1 r2 : List Val → Res α} : iteF (.ok (false, ys)) r1 r2 = r2 ys := rfl
theorem iteF_ok {α : Type} {b : Bool} {ys : List Val} {r1 r2 : List Val → Res α} : iteF (.ok (b, ys)) r1 r2 = if b = true then r1 ys else r2 ys := rfl
def retP (m : Res (Val × List Val)) : Res (Val × List Val) := fx m
def retF (m : Res (Val × List Val)) : Res Val := fx m >>= fun r => .ok r.1
@[simp] theorem retP_ok {r : Val × List Val} : retP (.ok r) = .ok r := rfl
@[simp] theorem retF_ok {r : Val × List Val} : retF (.ok r) = .ok r.1 := rfl
section
variable {α : Type} {c : Cxt} {X : Cx} {rel : Hp → Hp → V → α → Prop} {A Bs rest sts body : List Stmt} {t u tr tb : TS} {ρ ρ' : Ros} {r r1 r2 : Res α} {N C B : Exit α} {te ta : TE} {tt : TT} {tA : TA} {e cnd tg it o : Expr} {es : List Expr} {m m1 m2 : Res Val} {mb : Res Bool} {ml mi : Res (List Val)} {st : Stmt} {pos p1 : Pos} {wi : TI} {i j k : Nat} {xs : List Val}
theorem s_guard (he : ET c X cnd tt ρ mb) (hA : SB c X rel A t ρ r1 X0 C B) (hr : SB c X rel rest tr ρ r2 N C B) : SB c X rel (.If cnd A [] pos :: rest) (tSeq (tIfS tt t tNext) tr) ρ (iteR mb r1 r2) N C B := sb_guard he hA hr
theorem s_ifLast (he : ET c X cnd tt ρ mb) (hA : SB c X rel A t ρ r1 N C B) (hB : SB c X rel Bs u ρ r2 N C B) : SB c X rel [.If cnd A Bs pos] (tIfS tt t u) ρ (iteR mb r1 r2) N C B := sb_ifLast he hA hB
theorem s_ifJ {S : Type} (j : S → Res α) (ρj : S → Ros) (s0 : S) (he : ET c X cnd tt ρ mb) (hA : SB c X rel A t ρ r1 (fun ρ' r' => ∃ s, ρ' = ρj s ∧ r' = j s) C B) (hB : SB c X rel Bs u ρ r2 (fun ρ' r' => ∃ s, ρ' = ρj s ∧ r' = j s) C B)
    (hr : ∀ s, SB c X rel rest tr (ρj s) (j s) N C B) : SB c X rel (.If cnd A Bs pos :: rest) (tSeq (tIfS tt t u) tr) ρ (iteR mb r1 r2) N C B := sb_ifJ j ρj s0 he hA hB hr
/-- the join, reached -/
theorem s_join_ {S : Type} {j : S → Res α} {ρj : S → Ros} {C B : Exit α} (s : S) (w : Weak ρ (ρj s)) : SB c X rel [] tNext ρ (j s) (fun ρ' r' => ∃ s, ρ' = ρj s ∧ r' = j s) C B := sb_end w ⟨s, rfl, rfl⟩
/-- the next turn -/
theorem s_turn_ {S : Type} {loop : List Val → S → Res α} {ρh : S → Ros} {C B : Exit α} (s : S) (w : Weak ρ (ρh s)) : SB c X rel [] tNext ρ (loop xs s) (fun ρ' r' => ∃ s', ρ' = ρh s' ∧ r' = loop xs s') C B := sb_end w ⟨s, rfl, rfl⟩
theorem s_cont_ {S : Type} {loop : List Val → S → Res α} {ρh : S → Ros} {N B : Exit α} (s : S) (w : Weak ρ (ρh s)) : SB c X rel [.Continue pos] tCont ρ (loop xs s) N (fun ρ' r' => ∃ s', ρ' = ρh s' ∧ r' = loop xs s') B := sb_cont w ⟨s, rfl, rfl⟩
theorem s_break_ {S : Type} {loop : List Val → S → Res α} {ρh : S → Ros} {N C : Exit α} (s : S) (w : Weak ρ (ρh s)) : SB c X rel [.Break pos] tBreak ρ (loop [] s) N C (fun ρ' r' => ∃ s', ρ' = ρh s' ∧ r' = loop [] s') := sb_break w ⟨s, rfl, rfl⟩
/-- y = e -/
theorem s_set {y : Str} {py : Pos} {f : Val → Res α} (hN : X.N.Nodup) (hi : X.N[i]? = some y) (hx : Loc X.env.scope y) (he : EX c X e te ρ m) (hn : i < c.n) (h : ∀ x, SB c X rel rest tr (ρ.set i (some (.val x))) (f x) N C B)
    (hs : swapsWith e (some (.Name y py)) pos.line X.env = pure false := by rfl) (hf : X.fn y = true ∨ X.env.scope.names.lookup y = some .local := by first | exact .inl rfl | exact .inr rfl | assumption) :
    SB c X rel (.Assign [.Name y py] e pos :: rest) (tSeq (tAsg te (gName i)) tr) ρ (m >>= f) N C B := sb_set (ps_set hN hi hx he.pe hs hf) he.ev hn h
/-- y = [.. for ..]: the comprehension's own rule for a target -/
theorem s_ret {c : Cxt} {ρ : Ros} {N C B : Exit Val} (he : EX c X e te ρ m) : SB c X (relV c.G) [.Return (some e) pos] (tRet te) ρ m N C B := sb_ret he
/-- for y in .. -/
theorem s_for_ {S : Type} {y : Str} {py : Pos} (loop : List Val → S → Res α) (ρh : S → Ros) (s0 : S) (hp : PassesOwn (model X.prog X.w) X.A X.env X.xe) (hcalm : X.calm = true) (hi : EI c X (.Name y py) it wi ρ mi) (hw : Weak ρ (ρh s0)) (hN : X.N.Nodup) (hi2 : X.N[i]? = some y) (hx : Loc X.env.scope y) (hn : i < c.n)
    (hb : ∀ x xs s, SB c X rel body tb ((ρh s).set i (some (.val x))) (loop (x :: xs) s) (fun ρ2 r2 => ∃ s', ρ2 = ρh s' ∧ r2 = loop xs s') (fun ρ2 r2 => ∃ s', ρ2 = ρh s' ∧ r2 = loop xs s') (fun ρ2 r2 => ∃ s', ρ2 = ρh s' ∧ r2 = loop [] s'))
    (hd : ∀ s, SB c X rel rest tr (ρh s) (loop [] s) N C B) (hs : ∀ x, foldedSetIterable it X.env x = pure x := by intro _; rfl) (hf : X.fn y = true ∨ X.env.scope.names.lookup y = some .local := by first | exact .inl rfl | exact .inr rfl | assumption) :
    SB c X rel (.For (.Name y py) it body [] pos :: rest) (tSeq (tFor wi (gName i) tb) tr) ρ (mi >>= fun xs => loop xs s0) N C B :=
  sb_for loop ρh s0 hi hw hp hcalm (pg_name hN hi2 hx hf) (hb .non [] s0).ps (fun x xs s => gx_name hn (hb x xs s).bx) hd hs
/-- for a, b in .. -/
theorem s_for2 {S : Type} {e1 e2 : Expr} {kt : Nat} {pt : Pos} (loop : List Val → S → Res α) (ρh : S → Ros) (s0 : S) (hp : PassesOwn (model X.prog X.w) X.A X.env X.xe) (hcalm : X.calm = true) (hK : X.K = c.G.K) (hi : EI c X (.Tuple [e1, e2] kt pt) it wi ρ mi) (hw : Weak ρ (ρh s0)) (hg1 : PG X e1 (gName i)) (hg2 : PG X e2 (gName j)) (hni : i < c.n) (hnj : j < c.n) (fb : List Val → S → Val → Val → Res α) (hl : ∀ x xs s, loop (x :: xs) s = un2 x (fb xs s))
    (hb : ∀ a b xs s, SB c X rel body tb (((ρh s).set i (some (.val a))).set j (some (.val b))) (fb xs s a b) (fun ρ2 r2 => ∃ s', ρ2 = ρh s' ∧ r2 = loop xs s') (fun ρ2 r2 => ∃ s', ρ2 = ρh s' ∧ r2 = loop xs s') (fun ρ2 r2 => ∃ s', ρ2 = ρh s' ∧ r2 = loop [] s'))
    (hd : ∀ s, SB c X rel rest tr (ρh s) (loop [] s) N C B) (hs : ∀ x, foldedSetIterable it X.env x = pure x := by intro _; rfl) (h1 : (assignEach [e1, e2] X.env).length = 2 := by rfl) (h2 : (assignEach [e1, e2] X.env).findIdx? (·.1) = none := by rfl) (h3 : (assignEach [e1, e2] X.env).map (·.2) = assign e1 X.env :: (assignEach [e2] X.env).map (·.2) := by rfl) (h4 : (assignEach [e2] X.env).map (·.2) = assign e2 X.env :: (assignEach [] X.env).map (·.2) := by rfl) :
    SB c X rel (.For (.Tuple [e1, e2] kt pt) it body [] pos :: rest) (tSeq (tFor wi (gTup X.K 2 (gCons (gName i) (gCons (gName j) gNil))) tb) tr) ρ (mi >>= fun xs => loop xs s0) N C B :=
  sb_for loop ρh s0 hi hw hp hcalm (pg_tup hcalm (pgs_cons hg1 (pgs_cons hg2 pgs_nil h4) h3) h1 h2) (hb .non .non [] s0).ps (fun x xs s => by
    rw [hl]
    exact (gxs_tup2 (vs := [i, j]) hK fun a b => gxs_name hni (by simp) (gxs_name hnj (by simp) (hb a b xs s).bx)).gx) hd hs
end
section
variable {α : Type} {c : Cxt} {X : Cx} {rel : Hp → Hp → V → α → Prop} {A Bs rest sts body : List Stmt} {t u tr tb : TS} {ρ : List Val → Ros} {N C B : Exit α} {te : TE} {tt : TT} {e cnd tg it : Expr} {m : FM Val} {mb : FM Bool} {mi : FM (List Val)} {st : Stmt} {pos : Pos} {wi : TI} {i j k : Nat} {xs : List Val}
theorem s_setF {y : Str} {py : Pos} {f : Val → List Val → Res α} (hN : X.N.Nodup) (hi : X.N[i]? = some y) (hx : Loc X.env.scope y) (he : EF c X e te ρ m) (hn : i < c.n) (h : ∀ x ys, SB c X rel rest tr ((ρ ys).set i (some (.val x))) (f x ys) N C B)
    (hs : swapsWith e (some (.Name y py)) pos.line X.env = pure false := by rfl) (hf : X.fn y = true ∨ X.env.scope.names.lookup y = some .local := by first | exact .inl rfl | exact .inr rfl | assumption) :
    SB c X rel (.Assign [.Name y py] e pos :: rest) (tSeq (tAsg te (gName i)) tr) (ρ xs) (bindF (m xs) f) N C B := sb_setF (ps_set hN hi hx he.pe hs hf) he.ev hn h
theorem s_guardF {r1 r2 : List Val → Res α} (he : EFT c X cnd tt ρ mb) (hA : ∀ ys, SB c X rel A t (ρ ys) (r1 ys) X0 C B) (hr : ∀ ys, SB c X rel rest tr (ρ ys) (r2 ys) N C B) : SB c X rel (.If cnd A [] pos :: rest) (tSeq (tIfS tt t tNext) tr) (ρ xs) (iteF (mb xs) r1 r2) N C B := sb_guardF he hA hr
theorem s_ifLastF {r1 r2 : List Val → Res α} (he : EFT c X cnd tt ρ mb) (hA : ∀ ys, SB c X rel A t (ρ ys) (r1 ys) N C B) (hB : ∀ ys, SB c X rel Bs u (ρ ys) (r2 ys) N C B) : SB c X rel [.If cnd A Bs pos] (tIfS tt t u) (ρ xs) (iteF (mb xs) r1 r2) N C B := sb_ifLastF he hA hB
theorem s_ifJF {S : Type} {r1 r2 : List Val → Res α} (jn : S → Res α) (ρj : S → Ros) (s0 : S) (he : EFT c X cnd tt ρ mb) (hA : ∀ ys, SB c X rel A t (ρ ys) (r1 ys) (fun ρ' r' => ∃ s, ρ' = ρj s ∧ r' = jn s) C B) (hB : ∀ ys, SB c X rel Bs u (ρ ys) (r2 ys) (fun ρ' r' => ∃ s, ρ' = ρj s ∧ r' = jn s) C B)
    (hr : ∀ s, SB c X rel rest tr (ρj s) (jn s) N C B) : SB c X rel (.If cnd A Bs pos :: rest) (tSeq (tIfS tt t u) tr) (ρ xs) (iteF (mb xs) r1 r2) N C B :=
  ⟨pss_cons (ps_if he.pt (hA xs).ps (hB xs).ps) (hr s0).ps, bx_seq (bx_ifF he (fun ys => (hA ys).bx) fun ys => (hB ys).bx) (by rintro _ _ ⟨s, rfl, rfl⟩; exact (hr s).bx)⟩
theorem s_forF_ {S : Type} {y : Str} {py : Pos} (loop : List Val → S → Res α) (ρh : S → Ros) (s0 : List Val → S) (hp : PassesOwn (model X.prog X.w) X.A X.env X.xe) (hcalm : X.calm = true) (hi : EIF c X (.Name y py) it wi ρ mi) (hw : ∀ ys, Weak (ρ ys) (ρh (s0 ys))) (hN : X.N.Nodup) (hi2 : X.N[i]? = some y) (hx : Loc X.env.scope y) (hn : i < c.n)
    (hb : ∀ x xs s, SB c X rel body tb ((ρh s).set i (some (.val x))) (loop (x :: xs) s) (fun ρ2 r2 => ∃ s', ρ2 = ρh s' ∧ r2 = loop xs s') (fun ρ2 r2 => ∃ s', ρ2 = ρh s' ∧ r2 = loop xs s') (fun ρ2 r2 => ∃ s', ρ2 = ρh s' ∧ r2 = loop [] s'))
    (hd : ∀ s, SB c X rel rest tr (ρh s) (loop [] s) N C B) (hs : ∀ x, foldedSetIterable it X.env x = pure x := by intro _; rfl) (hf : X.fn y = true ∨ X.env.scope.names.lookup y = some .local := by first | exact .inl rfl | exact .inr rfl | assumption) :
    SB c X rel (.For (.Name y py) it body [] pos :: rest) (tSeq (tFor wi (gName i) tb) tr) (ρ xs) (bindF (mi xs) fun l ys => loop l (s0 ys)) N C B :=
  sb_forF loop ρh s0 hi hw hp hcalm (pg_name hN hi2 hx hf) (hb .non [] (s0 [])).ps (fun x xs s => gx_name hn (hb x xs s).bx) hd hs
theorem s_retP {c : Cxt} {ρ : List Val → Ros} {p0 : Addr} {N C B : Exit (Val × List Val)} (P : PotAt ρ k Ent.pot) (hp : c.p = some p0) (he : EF c X e te ρ m) : SB c X (relP c.G p0) [.Return (some e) pos] (tRet te) (ρ xs) (retP (m xs)) N C B := sb_retP P hp he
theorem s_retF {c : Cxt} {ρ : List Val → Ros} {N C B : Exit Val} (he : EF c X e te ρ m) : SB c X (relV c.G) [.Return (some e) pos] (tRet te) (ρ xs) (retF (m xs)) N C B := sb_retF he
end
end Mir
namespace Mir
open PySem PySem.Spec PyProof.Rows L2

/-! ### comprehensions -/
abbrev BX1 (X : Cx) (scope : Scope) (s : Shared) (H : Hp) (C : Addr) (cl : List (Str × Addr)) (fp : List Addr) : Cx := X.blk s H scope (compEnvC scope cl C X.env) fp
def noAt (ρ : Ros) (vs : List Nat) : Bool := vs.all fun j => match ρ[j]? with
  | some (some _) => false
  | _ => true
theorem noAt_of {ρ : Ros} {vs : List Nat} (h : noAt ρ vs = true) : ∀ (j : Nat) (e : Ent), ρ[j]? = some (some e) → j ∉ vs := fun j e q m => by
  have := List.all_eq_true.mp h j m
  rw [q] at this
  cases this
def mapR2 (M : Val → Val → Res Val) : List Val → Res (List Val) := collect fun x => un2 x fun a b => M a b >>= fun y => .ok (some y)
def mapIf (T : Val → Res Bool) (M : Val → Res Val) : List Val → Res (List Val) := collect fun x => keepIf (T x) (M x)
def mapIf2 (T : Val → Val → Res Bool) (M : Val → Val → Res Val) : List Val → Res (List Val) := collect fun x => un2 x fun a b => keepIf (T a b) (M a b)
/-- a comprehension: its rule's premises, what it comes to -/
structure LC (c : Cxt) (X : Cx) (elt tg it : Expr) (ifs : List Expr) (scope : Scope) (own : List (Str × Nat)) (wi : TI) (g : TG) (tt : TT) (te : TE) (ρ : Ros) (m : Res Val) : Prop where
  hc : X.calm = true
  hN : X.N.Nodup
  pi : PI X tg it wi
  ok : BlkOk X.N X.env.scope scope own
  hg : ∀ (s : Shared) (H : Hp) (C : Addr) (cl : List (Str × Addr)) (fp : List Addr), PG (BX1 X scope s H C cl fp) tg g
  ht : ∀ (s : Shared) (H : Hp) (C : Addr) (cl : List (Str × Addr)) (fp : List Addr), PTs (BX1 X scope s H C cl fp) ifs tt
  he : ∀ (s : Shared) (H : Hp) (C : Addr) (cl : List (Str × Addr)) (fp : List Addr), PE (BX1 X scope s H C cl fp) elt te
  ev : ∀ σ F H Q, At c F H σ ρ → PostV c F H Q m → tLc wi g tt te (own.map (·.2)) σ H Q
section
variable {c : Cxt} {X : Cx} {elt it cnd e1 e2 : Expr} {ifs : List Expr} {scope : Scope} {own : List (Str × Nat)} {wi : TI} {g : TG} {tt : TT} {te : TE} {ρ ρi : Ros} {m : Res Val} {mi : Res (List Val)} {y : Str} {py pos pt : Pos} {i j kt : Nat} {M : Val → Res Val} {T : Val → Res Bool} {M2 : Val → Val → Res Val} {T2 : Val → Val → Res Bool} {tg : Expr}
theorem x_lc (h : LC c X elt tg it ifs scope own wi g tt te ρ m) (hs : ∀ x, foldedSetIterable it X.env x = pure x := by intro _; rfl) : EX c X (.ListComp elt [⟨tg, it, ifs, 0⟩] scope pos) (tLc wi g tt te (own.map (·.2))) ρ m := ⟨pe_lc h.hc h.hN h.pi h.ok h.hg h.ht h.he hs, h.ev⟩
/-- y = [..] -/
theorem s_setLc {α : Type} {rel : Hp → Hp → V → α → Prop} {rest : List Stmt} {tr : TS} {N C B : Exit α} {spos : Pos} {f : Val → Res α} (h : LC c X elt tg it ifs scope own wi g tt te ρ m) (hy : X.N[i]? = some y) (hyl : X.env.scope.names.lookup y = some .local) (hsw : swapsWith (.ListComp elt [⟨tg, it, ifs, 0⟩] scope pos) (some (.Name y py)) spos.line X.env = pure true) (hn : i < c.n)
    (hr : ∀ x, SB c X rel rest tr (ρ.set i (some (.val x))) (f x) N C B) (hs : ∀ x, foldedSetIterable it X.env x = pure x := by intro _; rfl) : SB c X rel (.Assign [.Name y py] (.ListComp elt [⟨tg, it, ifs, 0⟩] scope pos) spos :: rest) (tSeq (tAsg (tLc wi g tt te (own.map (·.2))) (gName i)) tr) ρ (m >>= f) N C B :=
  sb_set (ps_setLc h.hc h.hN hy hyl hsw h.pi h.ok h.hg h.ht h.he hs) h.ev hn hr
theorem lc1 (hc : X.calm = true) (hN : X.N.Nodup) (ok : BlkOk X.N X.env.scope scope own) (hi : EI c X (.Name y py) it wi ρ mi) (hw : Weak ρ ρi) (hno : noAt ρi (own.map (·.2)) = true) (hi2 : X.N[i]? = some y) (hn : i < c.n) (hv : i ∈ own.map (·.2)) (hloc : ∀ s H C cl fp, Loc (BX1 X scope s H C cl fp).env.scope y) (hfn : ∀ s H C cl fp, (BX1 X scope s H C cl fp).fn y = true ∨ (BX1 X scope s H C cl fp).env.scope.names.lookup y = some .local)
    (hM : ∀ s H C cl fp x, EX c.in_ (BX1 X scope s H C cl fp) elt te (ρi.set i (some (.val x))) (M x)) : LC c X elt (.Name y py) it [] scope own wi (gName i) tYes te ρ (asL (mi >>= mapR M)) :=
  ⟨hc, hN, hi.pi, ok, fun s H C cl fp => pg_name hN hi2 (hloc s H C cl fp) (hfn s H C cl fp), fun s H C cl fp => pts_nil, fun s H C cl fp => (hM s H C cl fp .non).pe, lc_ev (fun x => M x >>= fun y => .ok (some y)) hi hw (noAt_of hno) fun x => gxs_name (c := c.in_) hn hv (el_all (hM X.s_0 X.H_0 0 [] [] x).ev)⟩
theorem lc1If (hc : X.calm = true) (hN : X.N.Nodup) (ok : BlkOk X.N X.env.scope scope own) (hi : EI c X (.Name y py) it wi ρ mi) (hw : Weak ρ ρi) (hno : noAt ρi (own.map (·.2)) = true) (hi2 : X.N[i]? = some y) (hn : i < c.n) (hv : i ∈ own.map (·.2)) (hloc : ∀ s H C cl fp, Loc (BX1 X scope s H C cl fp).env.scope y) (hfn : ∀ s H C cl fp, (BX1 X scope s H C cl fp).fn y = true ∨ (BX1 X scope s H C cl fp).env.scope.names.lookup y = some .local)
    (hT : ∀ s H C cl fp x, ET c.in_ (BX1 X scope s H C cl fp) cnd tt (ρi.set i (some (.val x))) (T x)) (hM : ∀ s H C cl fp x, EX c.in_ (BX1 X scope s H C cl fp) elt te (ρi.set i (some (.val x))) (M x)) : LC c X elt (.Name y py) it [cnd] scope own wi (gName i) tt te ρ (asL (mi >>= mapIf T M)) :=
  ⟨hc, hN, hi.pi, ok, fun s H C cl fp => pg_name hN hi2 (hloc s H C cl fp) (hfn s H C cl fp), fun s H C cl fp => pts_one (hT s H C cl fp .non).pt, fun s H C cl fp => (hM s H C cl fp .non).pe, lc_ev (fun x => keepIf (T x) (M x)) hi hw (noAt_of hno) fun x => gxs_name (c := c.in_) hn hv (el_if (hT X.s_0 X.H_0 0 [] [] x).ev (hM X.s_0 X.H_0 0 [] [] x).ev)⟩
theorem lc2 (hc : X.calm = true) (hN : X.N.Nodup) (hK : X.K = c.G.K) (ok : BlkOk X.N X.env.scope scope own) (hi : EI c X (.Tuple [e1, e2] kt pt) it wi ρ mi) (hw : Weak ρ ρi) (hno : noAt ρi (own.map (·.2)) = true) (hni : i < c.n) (hnj : j < c.n) (hvi : i ∈ own.map (·.2)) (hvj : j ∈ own.map (·.2)) (hg1 : ∀ s H C cl fp, PG (BX1 X scope s H C cl fp) e1 (gName i)) (hg2 : ∀ s H C cl fp, PG (BX1 X scope s H C cl fp) e2 (gName j))
    (hM : ∀ s H C cl fp a b, EX c.in_ (BX1 X scope s H C cl fp) elt te ((ρi.set i (some (.val a))).set j (some (.val b))) (M2 a b))
    (h1 : ∀ s H C cl fp, (assignEach [e1, e2] (BX1 X scope s H C cl fp).env).length = 2 := by intros; rfl) (h2 : ∀ s H C cl fp, (assignEach [e1, e2] (BX1 X scope s H C cl fp).env).findIdx? (·.1) = none := by intros; rfl) (h3 : ∀ s H C cl fp, (assignEach [e1, e2] (BX1 X scope s H C cl fp).env).map (·.2) = assign e1 (BX1 X scope s H C cl fp).env :: (assignEach [e2] (BX1 X scope s H C cl fp).env).map (·.2) := by intros; rfl) (h4 : ∀ s H C cl fp, (assignEach [e2] (BX1 X scope s H C cl fp).env).map (·.2) = assign e2 (BX1 X scope s H C cl fp).env :: (assignEach [] (BX1 X scope s H C cl fp).env).map (·.2) := by intros; rfl) :
    LC c X elt (.Tuple [e1, e2] kt pt) it [] scope own wi (gTup X.K 2 (gCons (gName i) (gCons (gName j) gNil))) tYes te ρ (asL (mi >>= mapR2 M2)) :=
  ⟨hc, hN, hi.pi, ok, fun s H C cl fp => pg_tup hc (pgs_cons (hg1 s H C cl fp) (pgs_cons (hg2 s H C cl fp) pgs_nil (h4 s H C cl fp)) (h3 s H C cl fp)) (h1 s H C cl fp) (h2 s H C cl fp), fun s H C cl fp => pts_nil, fun s H C cl fp => (hM s H C cl fp .non .non).pe, lc_ev (fun x => un2 x fun a b => M2 a b >>= fun y => .ok (some y)) hi hw (noAt_of hno) fun x => gxs_tup2 (c := c.in_) hK fun a b => gxs_name hni hvi (gxs_name hnj hvj (el_all (hM X.s_0 X.H_0 0 [] [] a b).ev))⟩
theorem lc2If (hc : X.calm = true) (hN : X.N.Nodup) (hK : X.K = c.G.K) (ok : BlkOk X.N X.env.scope scope own) (hi : EI c X (.Tuple [e1, e2] kt pt) it wi ρ mi) (hw : Weak ρ ρi) (hno : noAt ρi (own.map (·.2)) = true) (hni : i < c.n) (hnj : j < c.n) (hvi : i ∈ own.map (·.2)) (hvj : j ∈ own.map (·.2)) (hg1 : ∀ s H C cl fp, PG (BX1 X scope s H C cl fp) e1 (gName i)) (hg2 : ∀ s H C cl fp, PG (BX1 X scope s H C cl fp) e2 (gName j))
    (hT : ∀ s H C cl fp a b, ET c.in_ (BX1 X scope s H C cl fp) cnd tt ((ρi.set i (some (.val a))).set j (some (.val b))) (T2 a b)) (hM : ∀ s H C cl fp a b, EX c.in_ (BX1 X scope s H C cl fp) elt te ((ρi.set i (some (.val a))).set j (some (.val b))) (M2 a b))
    (h1 : ∀ s H C cl fp, (assignEach [e1, e2] (BX1 X scope s H C cl fp).env).length = 2 := by intros; rfl) (h2 : ∀ s H C cl fp, (assignEach [e1, e2] (BX1 X scope s H C cl fp).env).findIdx? (·.1) = none := by intros; rfl) (h3 : ∀ s H C cl fp, (assignEach [e1, e2] (BX1 X scope s H C cl fp).env).map (·.2) = assign e1 (BX1 X scope s H C cl fp).env :: (assignEach [e2] (BX1 X scope s H C cl fp).env).map (·.2) := by intros; rfl) (h4 : ∀ s H C cl fp, (assignEach [e2] (BX1 X scope s H C cl fp).env).map (·.2) = assign e2 (BX1 X scope s H C cl fp).env :: (assignEach [] (BX1 X scope s H C cl fp).env).map (·.2) := by intros; rfl) :
    LC c X elt (.Tuple [e1, e2] kt pt) it [cnd] scope own wi (gTup X.K 2 (gCons (gName i) (gCons (gName j) gNil))) tt te ρ (asL (mi >>= mapIf2 T2 M2)) :=
  ⟨hc, hN, hi.pi, ok, fun s H C cl fp => pg_tup hc (pgs_cons (hg1 s H C cl fp) (pgs_cons (hg2 s H C cl fp) pgs_nil (h4 s H C cl fp)) (h3 s H C cl fp)) (h1 s H C cl fp) (h2 s H C cl fp), fun s H C cl fp => pts_one (hT s H C cl fp .non .non).pt, fun s H C cl fp => (hM s H C cl fp .non .non).pe, lc_ev (fun x => un2 x fun a b => keepIf (T2 a b) (M2 a b)) hi hw (noAt_of hno) fun x => gxs_tup2 (c := c.in_) hK fun a b => gxs_name hni hvi (gxs_name hnj hvj (el_if (hT X.s_0 X.H_0 0 [] [] a b).ev (hM X.s_0 X.H_0 0 [] [] a b).ev))⟩
end

/-! ### what of the text a def must have -/
section
variable {K : PySem.W.Frag} {x qual : Str} {st : Stmt} {f : Addr} {oc kV doc pm cdv ct : Value} {od an : Option Addr} {sl : Array (Option Value)}
theorem fd0 (l : K.lookup f = some ⟨oc, od, .func (PySem.W.fnOf x qual (defArgs st) (defBody st) (defScope st) .none kV doc pm an cdv ct), sl⟩) (hc : PySem.W.codeIn K cdv qual = true) (hk : PySem.W.keepIn K (.ref f) = true) : FnD K x qual st [] f (PySem.W.fnOf x qual (defArgs st) (defBody st) (defScope st) .none kV doc pm an cdv ct) :=
  ⟨⟨oc, od, .none, kV, doc, pm, an, cdv, ct, sl, rfl, l, hc, .inl ⟨rfl, rfl⟩, .inl rfl⟩, hk⟩
theorem fd1 {T : Addr} {o : Obj} {its : List Value} {n : Nat} {dvs : List V} (l : K.lookup f = some ⟨oc, od, .func (PySem.W.fnOf x qual (defArgs st) (defBody st) (defScope st) (.ref T) kV doc pm an cdv ct), sl⟩) (hc : PySem.W.codeIn K cdv qual = true) (hk : PySem.W.keepIn K (.ref f) = true) (lT : K.lookup T = some o) (oT : o.data = .seq its.toArray n) (r : Vals dvs its) (hd : dvs ≠ []) : FnD K x qual st dvs f (PySem.W.fnOf x qual (defArgs st) (defBody st) (defScope st) (.ref T) kV doc pm an cdv ct) :=
  ⟨⟨oc, od, .ref T, kV, doc, pm, an, cdv, ct, sl, rfl, l, hc, .inr ⟨hd, T, o, its, n, rfl, lT, oT, r⟩, .inl rfl⟩, hk⟩
end
end Mir
namespace Mir
open PySem PySem.Spec PyProof.Rows L2
section
variable {c : Cxt} {X : Cx} {e a b cnd : Expr} {es rest : List Expr} {ta tb te : TE} {tt tu : TT} {tA : TA} {ρ : Ros} {m m1 m2 : Res Val} {mb mb2 : Res Bool} {ml : Res (List Val)} {pos : Pos}
theorem x_var {i : Nat} {x : Val} {y : Str} {p : Pos} (hi : X.N[i]? = some y) (hv : Vis X.env.scope y) (hx : ρ[i]? = some (some (.val x))) (h1 : (y == ("__debug__" : Str)) = false := by decide) (h2 : (y == ("__classdict__" : Str)) = false := by decide) : EX c X (.Name y p) (tVar i) ρ (.ok x) := ex_var (pe_var hi hv h1 h2) hx
theorem p_var {i : Nat} {y : Str} {p : Pos} (hi : X.N[i]? = some y) (hv : Vis X.env.scope y) (h1 : (y == ("__debug__" : Str)) = false := by decide) (h2 : (y == ("__classdict__" : Str)) = false := by decide) : PE X (.Name y p) (tVar i) := pe_var hi hv h1 h2
theorem x_ix (h1 : EX c X a ta ρ m1) (h2 : EX c X b tb ρ m2) (hK : X.K = c.G.K) (hs : PlainIx b := by intro _ _; rfl) : EX c X (.Subscript a b pos) (tOp (rIx c.G.K) ta tb) ρ (op2 vix m1 m2) := ex_ix h1 h2 hK hs
def ixM (xs : List Val) (m2 : Res Val) : Res Val := m2 >>= fun y => vix (.lst xs) y
@[simp] theorem ixM_ok {xs : List Val} {y : Val} : ixM xs (.ok y) = vix (.lst xs) y := rfl
theorem x_ixM {i : Nat} {xs : List Val} (ha : PE X a (tVar i)) (hx : ρ[i]? = some (some (.mut xs))) (h2 : EX c X b tb ρ m2) (hs : PlainIx b := by intro _ _; rfl) : EX c X (.Subscript a b pos) (tOp (rIxL X.K) (tVar i) tb) ρ (ixM xs m2) := ex_ixM (.inl rfl) ha hx h2 hs
theorem x_ixP {i : Nat} {xs : List Val} (ha : PE X a (tVar i)) (hx : ρ[i]? = some (some (.pot xs))) (h2 : EX c X b tb ρ m2) (hs : PlainIx b := by intro _ _; rfl) : EX c X (.Subscript a b pos) (tOp (rIxL X.K) (tVar i) tb) ρ (ixM xs m2) := ex_ixM (.inr rfl) ha hx h2 hs
def propM (k : Nat) (mg : List Val → Res Val) (m : Res Val) : Res Val := m >>= fun x => onObj k (fun _ => nx (mg [x])) x
theorem propM_ok {k : Nat} {mg : List Val → Res Val} {fs : List Val} : propM k mg (.ok (.obj k fs)) = nx (mg [.obj k fs]) := by simp [propM]
theorem x_prop {CX : CXT} {n k g p : Nat} {f : Str} {fd : FuncData} {ps : List Str} {mg : List Val → Res Val} (h : EX c X a ta ρ m) (hk : Cls X.K (c.G.cls k)) (hp : PropOf X.K (c.G.cls k) f p g) (Fg : FnOk X.prog X.w X.K X.mg X.base CX n g fd ps (spM c.G 1 mg)) (hr : Room (n + 1) X.A) (hbd : Binds X.K fd ps []) (hx : Passes CX X.nox E0) (hab : attributeBase a f X.env (eval a X.env) = eval a X.env := by rfl) :
    EX c X (.Attribute a f pos) (tProp (c.G.cls k) (spM c.G 1 mg) [] E0 ta) ρ (propM k mg m) := ex_prop h hk hp Fg hr hbd hx hab
theorem x_tup {k} (h : EA c X es tA ρ ml) : EX c X (.Tuple es k pos) (tTup tA) ρ (ml >>= mkT) := ex_tup h
theorem x_lst (h : EA c X es tA ρ ml) : EX c X (.List es pos) (tLst tA) ρ (ml >>= mkL) := ex_lst h
/-- a list that is still changed, as a whole, to len -/
theorem passL' {c : Cxt} : Passes (L2.CX X.prog X.w) X c.in_.E := passL
end
section
variable {c : Cxt} {X : Cx} {e a b cnd : Expr} {es rest : List Expr} {ta tb te : TE} {tt tu : TT} {tA : TA} {ρ : List Val → Ros} {m m1 m2 : FM Val} {mb : FM Bool} {ml : FM (List Val)} {pos : Pos}
def fand (m1 m2 : FM Val) : FM Val := fb m1 fun v => fb (fl fun _ => asB v) fun k => if k = true then m2 else fp (.bl false)
theorem ef_and (h : EF c X a ta ρ m1) (h2 : EF c X (.BoolOp .And (b :: rest) pos) tb ρ m2) : EF c X (.BoolOp .And (a :: b :: rest) pos) (tAndV ta tb) ρ (fand m1 m2) := by
  refine ⟨pe_and h.pe h2.pe, fun σ F H Q xs s p => h.ev σ F H _ xs s ?_⟩
  have q := PostF.bind (rel := Rep c.G) p
  cases h : m1 xs with
  | err e => rw [h] at q; exact q
  | no => rw [h] at q; exact q
  | ok r1 =>
    rw [h] at q
    intro v F1 H1 s1 a1 rv
    obtain ⟨x, ys, F1', e1, s1', a1', rv', p1⟩ := q v F1 H1 s1 a1 rv
    cases x with
    | bl k =>
      cases rv'
      refine ⟨k, rfl, ?_⟩
      have p2 : PostF c (Rep c.G) F1' σ ρ Q ((if k = true then m2 else fp (.bl false)) ys) := p1
      by_cases hk : k = true
      · rw [if_pos hk] at p2 ⊢
        exact h2.ev σ F1' H1 Q ys a1' p2
      · rw [if_neg hk] at p2 ⊢
        exact p2 (.bl false) F1' H1 (Same.refl _) a1' rfl
    | _ => exact p1.elim
theorem ef_one {op} (h : EF c X a ta ρ m) : EF c X (.BoolOp op [a] pos) ta ρ m := ⟨pe_one h.pe, h.ev⟩
theorem potAt_p {ρ : List Val → Ros} {k : Nat} (h1 : ∀ xs, (ρ xs)[k]? = some (some (.pot xs))) (h2 : ∀ xs ys, (ρ xs).set k (some (.pot ys)) = ρ ys) (h3 : ∀ xs, noPot ((ρ xs).set k none) = true) : PotAt ρ k Ent.pot := ⟨h1, h2, .inr rfl, fun _ => h3⟩
theorem potAt_m {ρ : List Val → Ros} {k : Nat} (h1 : ∀ xs, (ρ xs)[k]? = some (some (.mut xs))) (h2 : ∀ xs ys, (ρ xs).set k (some (.mut ys)) = ρ ys) : PotAt ρ k Ent.mut := ⟨h1, h2, .inl rfl, fun z => absurd z mut_pot⟩
@[simp] theorem fl_ok {α : Type} {m : List Val → Res α} {xs : List Val} : fl m xs = (nx (m xs) >>= fun x => .ok (x, xs)) := rfl
@[simp] theorem fb_ok {α β : Type} {m : FM α} {f : α → FM β} {xs : List Val} : fb m f xs = (m xs >>= fun r => f r.1 r.2) := rfl
@[simp] theorem fp_ok {α : Type} {x : α} {xs : List Val} : fp x xs = .ok (x, xs) := rfl
end
/-- turns enough for a while over these -/
def fuel : List Val → Nat
  | [] => 2
  | .int i :: r => i.natAbs + fuel r
  | _ :: r => fuel r
end Mir
namespace Mir
open PySem PySem.Spec PyProof.Rows L2
/-! ### more statements -/
def appR {α : Type} (xs : List Val) (x : Val) (f : List Val → Res α) : Res α := if xs.length < LIM then f (xs ++ [x]) else .no
def limR {α : Type} (l : List Val) (r : Res α) : Res α := if l.length ≤ LIM then r else .no
theorem appR_ok {α : Type} {xs : List Val} {x : Val} {f : List Val → Res α} (h : xs.length < LIM) : appR xs x f = f (xs ++ [x]) := if_pos h
theorem limR_ok {α : Type} {l : List Val} {r : Res α} (h : l.length ≤ LIM) : limR l r = r := if_pos h
section
variable {α : Type} {c : Cxt} {X : Cx} {rel : Hp → Hp → V → α → Prop} {A Bs rest sts : List Stmt} {t u tr : TS} {ρ ρ' : Ros} {r r1 r2 : Res α} {N C B : Exit α} {te ta tb : TE} {tt : TT} {tA : TA} {e ea eb cnd tg it o e0 e1 e2 e3 e4 : Expr} {es : List Expr} {m m1 m2 : Res Val} {mb : Res Bool} {ml : Res (List Val)} {st : Stmt} {pos p1 apos cpos : Pos} {g : TG} {xs : List Val} {i j k l : Nat}
theorem s_append {f : List Val → Res α} (ho : PE X o (tVar i)) (hi : ρ[i]? = some (some (.mut xs))) (he : EX c X e te ρ m) (h : ∀ ys, SB c X rel rest tr (ρ.set i (some (.mut ys))) (f ys) N C B)
    (hs : swapsWith (.Call (.Attribute o "append" apos) [e] [] cpos) none pos.line X.env = pure false := by rfl) (hbase : attributeBase o "append" X.env (eval o X.env) = eval o X.env := by rfl)
    (hfew : ((backTo cpos (starEach [e] X.env)).all (fun x => !x.1) && (backToKw cpos (keywordEach [] X.env)).all (fun x => x.1.isSome) && decide (([e] : List Expr).length + ([] : List Keyword).length + (if ([] : List Keyword).isEmpty then 0 else 1) < 30)) = true := by rfl)
    (hline : (apos.endLine == cpos.line) = true := by rfl) (hst : starEach [e] X.env = (false, eval e X.env) :: starEach [] X.env := by rfl) (hplain : (backTo cpos (starEach [] X.env)).any (·.1) = false := by rfl) :
    SB c X rel (.Expr (.Call (.Attribute o "append" apos) [e] [] cpos) pos :: rest) (tSeq (tDrop (tBM X.K "list" rAppend (tVar i) (tCons te tNil))) tr) ρ (m >>= fun x => appR xs x f) N C B := by
  by_cases hl : xs.length < LIM
  · have e1 : (m >>= fun x => appR xs x f) = (m >>= fun x => f (xs ++ [x])) := by
      congr 1; funext x; exact appR_ok hl
    rw [e1]
    exact sb_append ho hi he hl (fun x => h (xs ++ [x])) hs hbase hfew hline hst hplain
  · have ps := (sb_append (f := f) (rel := rel) (ρ := ρ.set i (some (.mut []))) (xs := []) (c := c) (m := .no) (N := N) (C := C) (B := B) (rest := rest) (tr := tr) (pos := pos) ho (by
        obtain ⟨hh, _⟩ := List.getElem?_eq_some_iff.mp hi
        rw [List.getElem?_set_self hh]) ⟨he.pe, fun _ _ _ _ _ p => p.elim⟩ (by show 0 < LIM; decide) (fun x => by rw [List.set_set]; exact h ([] ++ [x])) hs hbase hfew hline hst hplain).ps
    refine ⟨ps, fun D Q σ F H hrt hn hc hb s p => ?_⟩
    obtain ⟨P, eρ⟩ := potAt_mut hi
    obtain ⟨a, us, hσ, hH, hF, hul, hur, _⟩ := P.addr (xs := xs) (by rw [← eρ]; exact s)
    refine ⟨.ref a, hσ, .inl ⟨rfl, us, SqL.of hH⟩, ?_⟩
    refine he.ev σ F H _ s (fin_post s p fun x v F1 H1 _ gg s1 r1 p1 => ?_)
    unfold appR at p1
    rw [if_neg hl] at p1
    exact p1.elim
/-- y = [..], to be changed -/
theorem s_setM {f : List Val → Res α} {y : Str} {py : Pos} (hN : X.N.Nodup) (hi2 : X.N[i]? = some y) (hx : Loc X.env.scope y) (he : EA c X es tA ρ ml) (hi : i < c.n) (h : ∀ xs, SB c X rel rest tr (ρ.set i (some (.mut xs))) (f xs) N C B)
    (hs : swapsWith (.List es p1) (some (.Name y py)) pos.line X.env = pure false := by rfl) (hf : X.fn y = true ∨ X.env.scope.names.lookup y = some .local := by first | exact .inl rfl | exact .inr rfl | assumption) :
    SB c X rel (.Assign [.Name y py] (.List es p1) pos :: rest) (tSeq (tAsg (tLst tA) (gName i)) tr) ρ (ml >>= fun l => limR l (f l)) N C B := by
  refine ⟨pss_cons (ps_set hN hi2 hx (pe_lst he.pa) hs hf) (h []).ps, fun D Q σ F H hrt hn hc hb s p => he.ev σ F H _ s ?_⟩
  cases ml with
  | err e =>
    intro cl d F1 H1 g ee
    have s1 := s.grow g
    exact p cl d F1 H1 g.ff g.fh s1.kept s1.fresh ee
  | no => exact p
  | ok xs =>
    intro vs F1 H1 g r1
    have s1 := s.grow g
    have p : Fin c rel Q F (limR xs (f xs)) := p
    unfold limR at p
    split at p
    · rename_i hh
      have hv : vs.length ≤ LIM := by rw [r1.length]; exact hh
      refine ⟨lim_size hv, fun q hq => ?_⟩
      have g2 : At c F1 (upd H1 q (.lst vs)) σ ρ := s1.grow ⟨Same.refl _, fun a o e => by rw [upd_ne (ne_of_none (g.fh _ _ e) hq)]; exact g.fh _ _ e, fun a o e => by rw [upd_ne (ne_of_none e hq)]; exact e, fun a o e => .inl e⟩
      refine (h xs).bx D Q _ F1 _ hrt (fun σ2 F2 H2 ρ2 r2 z => hn σ2 F2 H2 ρ2 r2 (g.ff.trans z)) (fun σ2 F2 H2 ρ2 r2 z => hc σ2 F2 H2 ρ2 r2 (g.ff.trans z)) (fun σ2 F2 H2 ρ2 r2 z => hb σ2 F2 H2 ρ2 r2 (g.ff.trans z)) (g2.storeMut hi upd_same (g.fh.free hq) (s1.dom q hq) hv r1 fun j ys n e z => ?_) (Fin.mono g.ff p)
      obtain ⟨b, ws, e1, e2, _⟩ := s1.muts j ys e
      rw [z] at e1
      cases e1
      rw [hq] at e2
      cases e2
    · exact p.elim
/-- a, b, d = e1, e2, [] -/
theorem s_par3L {f : Val → Val → Res α} (hp : PS X st (tPar3 i j k (tCons ta (tCons tb (tCons (tLst tNil) tNil))))) (h1 : EX c X ea ta ρ m1) (h2 : EX c X eb tb ρ m2) (hi : i < c.n) (hj : j < c.n) (hk : k < c.n) (h : ∀ x y, SB c X rel rest tr (((ρ.set i (some (.val x))).set j (some (.val y))).set k (some (.mut []))) (f x y) N C B) :
    SB c X rel (st :: rest) (tSeq (tPar3 i j k (tCons ta (tCons tb (tCons (tLst tNil) tNil)))) tr) ρ (m1 >>= fun x => m2 >>= fun y => f x y) N C B := by
  refine ⟨pss_cons hp (h .non .non).ps, fun D Q σ F H hrt hn hc hb s p => ?_⟩
  refine h1.ev σ F H _ s (fin_post s p fun x v F1 H1 _ g1 s1 r1 q1 => ?_)
  refine h2.ev σ F1 H1 _ s1 (fin_post s1 q1 fun y w F2 H2 _ g2 s2 r2 q2 => ?_)
  refine ⟨Nat.zero_le _, fun q hq => ?_⟩
  refine ⟨v, w, .ref q, rfl, ?_⟩
  have up := g1.ff.trans g2.ff
  have g3 : At c F2 (upd H2 q (.lst [])) σ ρ := s2.grow ⟨Same.refl _, fun a o e => by rw [upd_ne (ne_of_none (s2.sub _ _ e) hq)]; exact s2.sub _ _ e, fun a o e => by rw [upd_ne (ne_of_none e hq)]; exact e, fun a o e => .inl e⟩
  have g4 := (g3.store hi (r1.mono g2.ff)).store hj r2
  refine (h x y).bx D Q _ F2 _ hrt (fun σ2 F2 H2 ρ2 r2 z => hn σ2 F2 H2 ρ2 r2 (up.trans z)) (fun σ2 F2 H2 ρ2 r2 z => hc σ2 F2 H2 ρ2 r2 (up.trans z)) (fun σ2 F2 H2 ρ2 r2 z => hb σ2 F2 H2 ρ2 r2 (up.trans z)) (g4.storeMut hk upd_same (s2.sub.free hq) (s2.dom q hq) (Nat.zero_le _) RepL.nil fun j' ys n e z => ?_) q2
  have s2' := (s2.store hi (r1.mono g2.ff)).store hj r2
  obtain ⟨b, ws, e1, e2, _⟩ := s2'.muts j' ys e
  rw [z] at e1
  cases e1
  rw [hq] at e2
  cases e2
/-- a, b = e -/
theorem s_asg2 {kt : Nat} {pt : Pos} {f : Val → Val → Res α} (hcalm : X.calm = true) (hK : X.K = c.G.K) (he : EX c X e te ρ m) (hg1 : PG X e1 (gName i)) (hg2 : PG X e2 (gName j)) (hni : i < c.n) (hnj : j < c.n) (h : ∀ a b, SB c X rel rest tr ((ρ.set i (some (.val a))).set j (some (.val b))) (f a b) N C B)
    (hs : swapsWithSole [.Tuple [e1, e2] kt pt] e pos.line X.env = pure false := by rfl) (hw : swappedStores [.Tuple [e1, e2] kt pt] e X.env = pure none := by rfl) (h5 : (assignEach [.Tuple [e1, e2] kt pt] X.env).map (·.2) = [assign (.Tuple [e1, e2] kt pt) X.env] := by rfl)
    (h1 : (assignEach [e1, e2] X.env).length = 2 := by rfl) (h2 : (assignEach [e1, e2] X.env).findIdx? (·.1) = none := by rfl) (h3 : (assignEach [e1, e2] X.env).map (·.2) = assign e1 X.env :: (assignEach [e2] X.env).map (·.2) := by rfl) (h4 : (assignEach [e2] X.env).map (·.2) = assign e2 X.env :: (assignEach [] X.env).map (·.2) := by rfl) :
    SB c X rel (.Assign [.Tuple [e1, e2] kt pt] e pos :: rest) (tSeq (tAsg te (gTup X.K 2 (gCons (gName i) (gCons (gName j) gNil)))) tr) ρ (m >>= fun x => un2 x f) N C B :=
  sb_asg (ps_asg he.pe (pg_tup hcalm (pgs_cons hg1 (pgs_cons hg2 pgs_nil h4) h3) h1 h2) hs hw h5) he.ev (h .non .non).ps fun x => (gxs_tup2 (vs := [i, j]) hK fun a b => gxs_name hni (by simp) (gxs_name hnj (by simp) (h a b).bx)).gx
/-- d, (a, b) = e -/
theorem s_asg12 {kt kt1 : Nat} {pt pt1 : Pos} {f : Val → Val → Val → Res α} (hcalm : X.calm = true) (hK : X.K = c.G.K) (he : EX c X e te ρ m) (hg0 : PG X e0 (gName k)) (hg1 : PG X e1 (gName i)) (hg2 : PG X e2 (gName j)) (hnk : k < c.n) (hni : i < c.n) (hnj : j < c.n) (h : ∀ d a b, SB c X rel rest tr (((ρ.set k (some (.val d))).set i (some (.val a))).set j (some (.val b))) (f d a b) N C B)
    (hs : swapsWithSole [.Tuple [e0, .Tuple [e1, e2] kt1 pt1] kt pt] e pos.line X.env = pure false := by rfl) (hw : swappedStores [.Tuple [e0, .Tuple [e1, e2] kt1 pt1] kt pt] e X.env = pure none := by rfl) (h5 : (assignEach [.Tuple [e0, .Tuple [e1, e2] kt1 pt1] kt pt] X.env).map (·.2) = [assign (.Tuple [e0, .Tuple [e1, e2] kt1 pt1] kt pt) X.env] := by rfl)
    (h1 : (assignEach [e0, .Tuple [e1, e2] kt1 pt1] X.env).length = 2 := by rfl) (h2 : (assignEach [e0, .Tuple [e1, e2] kt1 pt1] X.env).findIdx? (·.1) = none := by rfl) (h3 : (assignEach [e0, .Tuple [e1, e2] kt1 pt1] X.env).map (·.2) = assign e0 X.env :: (assignEach [.Tuple [e1, e2] kt1 pt1] X.env).map (·.2) := by rfl) (h4 : (assignEach [.Tuple [e1, e2] kt1 pt1] X.env).map (·.2) = assign (.Tuple [e1, e2] kt1 pt1) X.env :: (assignEach [] X.env).map (·.2) := by rfl)
    (k1 : (assignEach [e1, e2] X.env).length = 2 := by rfl) (k2 : (assignEach [e1, e2] X.env).findIdx? (·.1) = none := by rfl) (k3 : (assignEach [e1, e2] X.env).map (·.2) = assign e1 X.env :: (assignEach [e2] X.env).map (·.2) := by rfl) (k4 : (assignEach [e2] X.env).map (·.2) = assign e2 X.env :: (assignEach [] X.env).map (·.2) := by rfl) :
    SB c X rel (.Assign [.Tuple [e0, .Tuple [e1, e2] kt1 pt1] kt pt] e pos :: rest) (tSeq (tAsg te (gTup X.K 2 (gCons (gName k) (gCons (gTup X.K 2 (gCons (gName i) (gCons (gName j) gNil))) gNil)))) tr) ρ (m >>= fun x => un2 x fun d y => un2 y fun a b => f d a b) N C B :=
  sb_asg (ps_asg he.pe (pg_tup hcalm (pgs_cons hg0 (pgs_cons (pg_tup hcalm (pgs_cons hg1 (pgs_cons hg2 pgs_nil k4) k3) k1 k2) pgs_nil h4) h3) h1 h2) hs hw h5) he.ev (h .non .non .non).ps fun x =>
    (gxs_tup2 (vs := [k, i, j]) hK fun d y => gxs_name hnk (by simp) (gxs_tup2 (vs := [k, i, j]) hK fun a b => gxs_name hni (by simp) (gxs_name hnj (by simp) (h d a b).bx))).gx
/-- (a, b), (d, f) = e -/
theorem s_asg22 {kt kt1 kt2 : Nat} {pt pt1 pt2 : Pos} {f : Val → Val → Val → Val → Res α} (hcalm : X.calm = true) (hK : X.K = c.G.K) (he : EX c X e te ρ m) (hg1 : PG X e1 (gName i)) (hg2 : PG X e2 (gName j)) (hg3 : PG X e3 (gName k)) (hg4 : PG X e4 (gName l)) (hni : i < c.n) (hnj : j < c.n) (hnk : k < c.n) (hnl : l < c.n) (h : ∀ a b d q, SB c X rel rest tr ((((ρ.set i (some (.val a))).set j (some (.val b))).set k (some (.val d))).set l (some (.val q))) (f a b d q) N C B)
    (hs : swapsWithSole [.Tuple [.Tuple [e1, e2] kt1 pt1, .Tuple [e3, e4] kt2 pt2] kt pt] e pos.line X.env = pure false := by rfl) (hw : swappedStores [.Tuple [.Tuple [e1, e2] kt1 pt1, .Tuple [e3, e4] kt2 pt2] kt pt] e X.env = pure none := by rfl) (h5 : (assignEach [.Tuple [.Tuple [e1, e2] kt1 pt1, .Tuple [e3, e4] kt2 pt2] kt pt] X.env).map (·.2) = [assign (.Tuple [.Tuple [e1, e2] kt1 pt1, .Tuple [e3, e4] kt2 pt2] kt pt) X.env] := by rfl)
    (h1 : (assignEach [.Tuple [e1, e2] kt1 pt1, .Tuple [e3, e4] kt2 pt2] X.env).length = 2 := by rfl) (h2 : (assignEach [.Tuple [e1, e2] kt1 pt1, .Tuple [e3, e4] kt2 pt2] X.env).findIdx? (·.1) = none := by rfl) (h3 : (assignEach [.Tuple [e1, e2] kt1 pt1, .Tuple [e3, e4] kt2 pt2] X.env).map (·.2) = assign (.Tuple [e1, e2] kt1 pt1) X.env :: (assignEach [.Tuple [e3, e4] kt2 pt2] X.env).map (·.2) := by rfl) (h4 : (assignEach [.Tuple [e3, e4] kt2 pt2] X.env).map (·.2) = assign (.Tuple [e3, e4] kt2 pt2) X.env :: (assignEach [] X.env).map (·.2) := by rfl)
    (k1 : (assignEach [e1, e2] X.env).length = 2 := by rfl) (k2 : (assignEach [e1, e2] X.env).findIdx? (·.1) = none := by rfl) (k3 : (assignEach [e1, e2] X.env).map (·.2) = assign e1 X.env :: (assignEach [e2] X.env).map (·.2) := by rfl) (k4 : (assignEach [e2] X.env).map (·.2) = assign e2 X.env :: (assignEach [] X.env).map (·.2) := by rfl)
    (l1 : (assignEach [e3, e4] X.env).length = 2 := by rfl) (l2 : (assignEach [e3, e4] X.env).findIdx? (·.1) = none := by rfl) (l3 : (assignEach [e3, e4] X.env).map (·.2) = assign e3 X.env :: (assignEach [e4] X.env).map (·.2) := by rfl) (l4 : (assignEach [e4] X.env).map (·.2) = assign e4 X.env :: (assignEach [] X.env).map (·.2) := by rfl) :
    SB c X rel (.Assign [.Tuple [.Tuple [e1, e2] kt1 pt1, .Tuple [e3, e4] kt2 pt2] kt pt] e pos :: rest) (tSeq (tAsg te (gTup X.K 2 (gCons (gTup X.K 2 (gCons (gName i) (gCons (gName j) gNil))) (gCons (gTup X.K 2 (gCons (gName k) (gCons (gName l) gNil))) gNil)))) tr) ρ (m >>= fun x => un2 x fun y z => un2 y fun a b => un2 z fun d q => f a b d q) N C B :=
  sb_asg (ps_asg he.pe (pg_tup hcalm (pgs_cons (pg_tup hcalm (pgs_cons hg1 (pgs_cons hg2 pgs_nil k4) k3) k1 k2) (pgs_cons (pg_tup hcalm (pgs_cons hg3 (pgs_cons hg4 pgs_nil l4) l3) l1 l2) pgs_nil h4) h3) h1 h2) hs hw h5) he.ev (h .non .non .non .non).ps fun x =>
    (gxs_tup2 (vs := [i, j, k, l]) hK fun y z => gxs_tup2 (vs := [i, j, k, l]) hK fun a b => gxs_name hni (by simp) (gxs_name hnj (by simp) (gxs_tup2 (vs := [i, j, k, l]) hK fun d q => gxs_name hnk (by simp) (gxs_name hnl (by simp) (h a b d q).bx)))).gx
/-- a, b = e1, e2 -/
theorem s_par2 {f : Val → Val → Res α} (hp : PS X st (tPar i j (tCons ta (tCons tb tNil)))) (h1 : EX c X ea ta ρ m1) (h2 : EX c X eb tb ρ m2) (hi : i < c.n) (hj : j < c.n) (h : ∀ x y, SB c X rel rest tr ((ρ.set i (some (.val x))).set j (some (.val y))) (f x y) N C B) :
    SB c X rel (st :: rest) (tSeq (tPar i j (tCons ta (tCons tb tNil))) tr) ρ (m1 >>= fun x => m2 >>= fun y => f x y) N C B := by
  refine ⟨pss_cons hp (h .non .non).ps, fun D Q σ F H hrt hn hc hb s p => ?_⟩
  refine h1.ev σ F H _ s (fin_post s p fun x v F1 H1 _ g1 s1 r1 q1 => ?_)
  refine h2.ev σ F1 H1 _ s1 (fin_post s1 q1 fun y w F2 H2 _ g2 s2 r2 q2 => ?_)
  have up := g1.ff.trans g2.ff
  exact ⟨v, w, rfl, (h x y).bx D Q _ F2 _ hrt (fun σ2 F2 H2 ρ2 r2 z => hn σ2 F2 H2 ρ2 r2 (up.trans z)) (fun σ2 F2 H2 ρ2 r2 z => hc σ2 F2 H2 ρ2 r2 (up.trans z)) (fun σ2 F2 H2 ρ2 r2 z => hb σ2 F2 H2 ρ2 r2 (up.trans z)) ((s2.store hi (r1.mono g2.ff)).store hj r2) q2⟩
end
section
variable {α : Type} {c : Cxt} {X : Cx} {rel : Hp → Hp → V → α → Prop} {A Bs rest sts : List Stmt} {t u tr : TS} {ρ : List Val → Ros} {N C B : Exit α} {te ta ti tb : TE} {tt : TT} {tA : TA} {e o ie : Expr} {es : List Expr} {m : FM Val} {ml : FM (List Val)} {st : Stmt} {pos p1 : Pos} {xs : List Val} {i j k : Nat} {w : List Val → Ent}
/-- y = [..], to be changed, worked out with the list's help -/
theorem s_setMF {f : List Val → List Val → Res α} {y : Str} {py : Pos} (hN : X.N.Nodup) (hi2 : X.N[i]? = some y) (hx : Loc X.env.scope y) (he : EFA c X es tA ρ ml) (hi : i < c.n) (h : ∀ l ys, SB c X rel rest tr ((ρ ys).set i (some (.mut l))) (f l ys) N C B)
    (hs : swapsWith (.List es p1) (some (.Name y py)) pos.line X.env = pure false := by rfl) (hf : X.fn y = true ∨ X.env.scope.names.lookup y = some .local := by first | exact .inl rfl | exact .inr rfl | assumption) :
    SB c X rel (.Assign [.Name y py] (.List es p1) pos :: rest) (tSeq (tAsg (tLst tA) (gName i)) tr) (ρ xs) (bindF (ml xs) fun l ys => limR l (f l ys)) N C B := by
  refine ⟨pss_cons (ps_set hN hi2 hx (pe_lst he.pa) hs hf) (h [] xs).ps, fun D Q σ F H hrt hn hc hb s p => he.ev σ F H _ xs s (fin_postX (f := fun l ys => limR l (f l ys)) s p fun l ys vs F1 H1 _ s1 a1 r1 p1 => ?_)⟩
  unfold limR at p1
  split at p1
  · rename_i hh
    have hv : vs.length ≤ LIM := by rw [r1.length]; exact hh
    refine ⟨lim_size hv, fun q hq => ?_⟩
    have g2 : At c F1 (upd H1 q (.lst vs)) σ (ρ ys) := a1.grow ⟨Same.refl _, fun a o e => by rw [upd_ne (ne_of_none (a1.sub _ _ e) hq)]; exact a1.sub _ _ e, fun a o e => by rw [upd_ne (ne_of_none e hq)]; exact e, fun a o e => .inl e⟩
    refine (h l ys).bx D Q _ F1 _ hrt (fun σ2 F2 H2 ρ2 r2 z => hn σ2 F2 H2 ρ2 r2 (s1.trans z)) (fun σ2 F2 H2 ρ2 r2 z => hc σ2 F2 H2 ρ2 r2 (s1.trans z)) (fun σ2 F2 H2 ρ2 r2 z => hb σ2 F2 H2 ρ2 r2 (s1.trans z)) (g2.storeMut hi upd_same (a1.sub.free hq) (a1.dom q hq) hv r1 fun j ys n e z => ?_) p1
    obtain ⟨b, ws, e1, e2, _⟩ := a1.muts j ys e
    rw [z] at e1
    cases e1
    rw [hq] at e2
    cases e2
  · exact p1.elim
/-- y[i] = e, y the list -/
theorem s_put {mi : Res Val} {f : List Val → Res α} (P : PotAt ρ k w) (ho : PE X o (tVar k)) (he : EF c X e te ρ m) (hie : ∀ ys, EX c X ie ti (ρ ys) mi) (h : ∀ ys, SB c X rel rest tr (ρ ys) (f ys) N C B)
    (ha : ∀ v, assign (.Subscript o ie p1) X.env v = (do
      let ov ← holding [v] (eval o X.env)
      let iv ← holding [v, ov] (eval ie X.env)
      standAt p1
      holding [v, ov, iv] (setItem ov iv v)
      release [v, ov, iv] []) := by intro _; rfl)
    (hs : swapsWithSole [.Subscript o ie p1] e pos.line X.env = pure false := by rfl) (hw : swappedStores [.Subscript o ie p1] e X.env = pure none := by rfl) (h5 : (assignEach [.Subscript o ie p1] X.env).map (·.2) = [assign (.Subscript o ie p1) X.env] := by rfl) :
    SB c X rel (.Assign [.Subscript o ie p1] e pos :: rest) (tSeq (tAsg te (gSub (tVar k) ti rSetL)) tr) (ρ xs) (fx (m xs) >>= fun r => mi >>= fun i => putI r.2 i r.1 f) N C B :=
  sb_put P (ps_asg he.pe (pg_sub ho (hie xs).pe set_list ha) hs hw h5) he.ev (fun ys => (hie ys).ev) (h xs).ps h
end
end Mir
namespace Mir
open PySem PySem.Spec PyProof.Rows L2
theorem bt_int : bootBuiltins "int" = some (.type "int") := by decide +kernel
theorem bt_bool : bootBuiltins "bool" = some (.type "bool") := by decide +kernel
theorem bt_str : bootBuiltins "str" = some (.type "str") := by decide +kernel
theorem bt_list : bootBuiltins "list" = some (.type "list") := by decide +kernel
theorem bt_tuple : bootBuiltins "tuple" = some (.type "tuple") := by decide +kernel
theorem bt_len : bootBuiltins "len" = some (.builtin "len") := by decide +kernel
theorem bt_abs : bootBuiltins "abs" = some (.builtin "abs") := by decide +kernel
theorem bt_max : bootBuiltins "max" = some (.builtin "max") := by decide +kernel
theorem bt_min : bootBuiltins "min" = some (.builtin "min") := by decide +kernel
theorem bt_repr : bootBuiltins "repr" = some (.builtin "repr") := by decide +kernel
theorem bt_sum : bootBuiltins "sum" = some (.builtin "sum") := by decide +kernel
theorem bt_all : bootBuiltins "all" = some (.builtin "all") := by decide +kernel
theorem bt_any : bootBuiltins "any" = some (.builtin "any") := by decide +kernel
theorem bt_divmod : bootBuiltins "divmod" = some (.builtin "divmod") := by decide +kernel
/-- str of ints alone -/
def bStrI : List Val → Res Val
  | [.int a] => strZ a
  | _ => .no
theorem cv_strI {c : Cxt} : CallV c (fun xs H Q => ∃ i, xs = [.int i] ∧ i.natAbs.log2 < 1920 ∧ Q (.str (toString i)) H) bStrI := by
  intro xs vs F H Q hs r p
  unfold bStrI at p
  split at p
  · obtain ⟨v, rfl, rv⟩ := repL1 r
    cases rv
    unfold strZ at p
    split at p
    · rename_i hh
      exact ⟨_, rfl, hh, p.done hs rfl⟩
    · exact p.elim
  · exact p.elim
def cmM (k : Nat) (ml mk : Res (List Val)) (p : List Nat) (ds : List Val) (mm : List Val → Res Val) : Res Val := ml >>= fun xs => mk >>= fun ys => mm (pick p (.cls k :: xs ++ ys ++ ds))
theorem cmM_ok {k : Nat} {xs ys ds : List Val} {p : List Nat} {mm : List Val → Res Val} : cmM k (.ok xs) (.ok ys) p ds mm = mm (pick p (.cls k :: xs ++ ys ++ ds)) := rfl
/-! ### an if, and what follows both ways -/
def joinR {S α : Type} (j : S → Res α) (f : (S → Res α) → Res α) : Res α := f j
@[simp] theorem joinR_eq {S α : Type} (j : S → Res α) (f : (S → Res α) → Res α) : joinR j f = f j := rfl
section
variable {α : Type} {c : Cxt} {X : Cx} {rel : Hp → Hp → V → α → Prop} {A Bs rest sts : List Stmt} {t u tr : TS} {ρ ρ' : Ros} {N C B : Exit α} {te to : TE} {tt : TT} {e o cnd : Expr} {m : Res Val} {mb : Res Bool} {pos pos' : Pos} {i k : Nat}
def slfOnly (ρ : Ros) (i : Nat) : Bool := (List.range ρ.length).all fun j => j == i || match ρ[j]? with
  | some (some (.slf _ _)) => false
  | _ => true
theorem slfOnly_of (h : slfOnly ρ i = true) : ∀ (j k' : Nat) (gs : List Val), ρ[j]? = some (some (Ent.slf k' gs)) → j = i := fun j k' gs e => by
  have hj : j < ρ.length := (List.getElem?_eq_some_iff.mp e).1
  have := List.all_eq_true.mp h j (List.mem_range.mpr hj)
  rw [e] at this
  simpa using this
/-- self.f = e -/
theorem s_fld {fs : List Val} {f : Str} {g : Val → Res α} (ho : PE X o (tVar i)) (he : EX c X e te ρ m) (hi : ρ[i]? = some (some (.slf k fs))) (hf : (c.G.flds k)[fs.length]? = some f) (nd : (c.G.flds k).Nodup) (h6 : (c.G.flds k).length ≤ 500)
    (hk : Cls X.K (c.G.cls k)) (hn : NoAttr X.K (c.G.cls k) f) (only : slfOnly ρ i = true) (np : noPot ρ = true)
    (h : ∀ x, SB c X rel rest tr (ρ.set i (some (.slf k (fs ++ [x])))) (g x) N C B) (hs : swapsWith e (some (.Attribute o f pos')) pos.line X.env = pure false := by rfl) :
    SB c X rel (.Assign [.Attribute o f pos'] e pos :: rest) (tSeq (sFld X.K (tVar i) te f) tr) ρ (m >>= g) N C B :=
  sb_fld ho he hi hf nd h6 hk hn (slfOnly_of only) (fun j gs e => noPot_at np e) h hs
end
section
variable {α : Type} {c : Cxt} {X : Cx} {rel : Hp → Hp → V → α → Prop} {A Bs rest sts : List Stmt} {t u tr : TS} {ρ : List Val → Ros} {N C B : Exit α} {te : TE} {tt : TT} {e cnd e1 e2 : Expr} {m : FM Val} {mb : FM Bool} {pos : Pos} {i j k : Nat} {xs : List Val}
/-- a, b = e -/
theorem s_asg2F {kt : Nat} {pt : Pos} {f : Val → Val → List Val → Res α} (hcalm : X.calm = true) (hK : X.K = c.G.K) (he : EF c X e te ρ m) (hg1 : PG X e1 (gName i)) (hg2 : PG X e2 (gName j)) (hni : i < c.n) (hnj : j < c.n) (h : ∀ a b ys, SB c X rel rest tr (((ρ ys).set i (some (.val a))).set j (some (.val b))) (f a b ys) N C B)
    (hs : swapsWithSole [.Tuple [e1, e2] kt pt] e pos.line X.env = pure false := by rfl) (hw : swappedStores [.Tuple [e1, e2] kt pt] e X.env = pure none := by rfl) (h5 : (assignEach [.Tuple [e1, e2] kt pt] X.env).map (·.2) = [assign (.Tuple [e1, e2] kt pt) X.env] := by rfl)
    (h1 : (assignEach [e1, e2] X.env).length = 2 := by rfl) (h2 : (assignEach [e1, e2] X.env).findIdx? (·.1) = none := by rfl) (h3 : (assignEach [e1, e2] X.env).map (·.2) = assign e1 X.env :: (assignEach [e2] X.env).map (·.2) := by rfl) (h4 : (assignEach [e2] X.env).map (·.2) = assign e2 X.env :: (assignEach [] X.env).map (·.2) := by rfl) :
    SB c X rel (.Assign [.Tuple [e1, e2] kt pt] e pos :: rest) (tSeq (tAsg te (gTup X.K 2 (gCons (gName i) (gCons (gName j) gNil)))) tr) (ρ xs) (bindF (m xs) fun x ys => un2 x fun a b => f a b ys) N C B :=
  sb_asgF (f := fun x ys => un2 x fun a b => f a b ys) (ps_asg he.pe (pg_tup hcalm (pgs_cons hg1 (pgs_cons hg2 pgs_nil h4) h3) h1 h2) hs hw h5) he.ev (h .non .non xs).ps fun x ys => (gxs_tup2 (vs := [i, j]) hK fun a b => gxs_name hni (by simp) (gxs_name hnj (by simp) (h a b ys).bx)).gx
theorem flen_nil : ∀ (xs : List Val) (r : List Val × List Val), (fp ([] : List Val) : FM (List Val)) xs = .ok r → r.1.length = 0 := fun xs r h => by cases h; rfl
theorem flen_lift {n : Nat} {ml : List Val → Res (List Val)} (h : ∀ ys xs, ml ys = .ok xs → xs.length = n) : ∀ (xs : List Val) (r : List Val × List Val), fl ml xs = .ok r → r.1.length = n := fun xs r e => by
  unfold fl at e
  cases hm : ml xs with
  | ok l => rw [hm] at e; cases e; exact h xs l hm
  | err _ => rw [hm] at e; cases e
  | no => rw [hm] at e; cases e
theorem flen_cons {n : Nat} {m : FM Val} {ml : FM (List Val)} (h : ∀ xs r, ml xs = .ok r → r.1.length = n) : ∀ (xs : List Val) (r : List Val × List Val), fcons m ml xs = .ok r → r.1.length = n + 1 := fun xs r e => by
  unfold fcons fb at e
  cases hm : m xs with
  | err _ => rw [hm] at e; cases e
  | no => rw [hm] at e; cases e
  | ok q =>
    rw [hm] at e
    simp only [ok_bind] at e
    cases hl : ml q.2 with
    | err _ => rw [hl] at e; cases e
    | no => rw [hl] at e; cases e
    | ok l =>
      rw [hl] at e
      cases e
      exact congrArg Nat.succ (h _ _ hl)
end
end Mir
namespace Mir
open PySem PySem.Spec PyProof.Rows L2
/-! ### the rules for defs, the reading behind what is handed -/
theorem fnSG2 {P : Program} {w : World} {K : PySem.W.Frag} {mg : Str → Option Value} {base : Heap} {G : Glo} {x qual : Str} {st : Stmt} {f : Addr} {fd : FuncData} {N ps : List Str} {k : Nat} {dvs : List V} {mm : List Val → Res Val} (Fd : FnD K x qual st dvs f fd) (S : FnScope N ps (defScope st)) (d : List Val) (hd : d.length = ps.length)
    (hbody : ∀ (cdv : Value) (A : Around) (outer : List PySem.Env) (s : Shared) (H : Hp) (E : XK), BdG P w k E (cxOf (L2.CX P w) P w K mg base N qual (defScope st) f cdv A outer s H E) →
      ∀ (F0 : Hp) (xs : List Val), xs.length = ps.length → ∃ t, SB ⟨G, E, H, F0, none, N.length⟩ (cxOf (L2.CX P w) P w K mg base N qual (defScope st) f cdv A outer s H E) (relV G) (defBody st) t (rho N.length xs) (mm xs) (fun _ r => r = .ok .non) X0 X0) :
    FnG P w K mg base (k + 1) f fd ps (spM G ps.length mm) := by
  refine fnG_of Fd S (fun vs H Q E h => ?_) (fun cdv A outer s H vs Q E hgd hr h => ?_)
  · obtain ⟨F, xs, _, _, e, _⟩ := h
    exact e
  · obtain ⟨F, xs, hs, r, e, p⟩ := h
    have tk : Takes (cxOf (L2.CX P w) P w K mg base N qual (defScope st) f cdv A outer s H E) (fun cls d _ H => E cls d H) := takes_of rfl rfl rfl rfl
    obtain ⟨t, hb⟩ := hbody cdv A outer s H E ⟨⟨hr, passes_call tk fun _ _ _ _ h => h, tk, passes_of rfl⟩, hgd⟩ F xs (by rw [← r.length]; exact e)
    refine ⟨t, hb.ps, ?_⟩
    have hl : vs.length ≤ N.length := by
      have := congrArg List.length S.pre
      rw [List.length_take] at this
      omega
    have s0 := at_start (G := G) (E := E) (N := N) hs r hl
    refine hb.bx { nx := fun _ H' => Q .non H', rt := Q } Q _ F H rfl (fun σ' F' H' ρ' r' _ q s' p' => ?_) (fun _ _ _ _ _ _ z => z.elim) (fun _ _ _ _ _ _ z => z.elim) s0 ?_
    · subst q
      exact p' .non F' H' (Same.refl _) s'.sub s'.kept s'.fresh rfl
    · cases hm : mm xs with
      | no => rw [hm] at p; exact p
      | ok y =>
        rw [hm] at p
        exact fun v F' H' a1 a2 a3 a4 a5 => p v F' H' ⟨a1, a2, fun b o q => a3 b o q (fun z => nomatch z), a4⟩ a5
      | err ex =>
        rw [hm] at p
        exact fun cl d F' H' a1 a2 a3 a4 a5 => p cl d F' H' ⟨a1, a2, fun b o q => a3 b o q (fun z => nomatch z), a4⟩ a5
theorem fnS2 {P : Program} {w : World} {K : PySem.W.Frag} {mg : Str → Option Value} {base : Heap} {G : Glo} {x qual : Str} {st : Stmt} {f : Addr} {fd : FuncData} {N ps : List Str} {k : Nat} {dvs : List V} {mm : List Val → Res Val} (Fd : FnD K x qual st dvs f fd) (S : FnScope N ps (defScope st)) (d : List Val) (hd : d.length = ps.length)
    (hbody : ∀ (cdv : Value) (A : Around) (outer : List PySem.Env) (s : Shared) (H : Hp) (E : XK), Bd P w k E (cxOf (L2.CX P w) P w K mg base N qual (defScope st) f cdv A outer s H E) →
      ∀ (F0 : Hp) (xs : List Val), xs.length = ps.length → ∃ t, SB ⟨G, E, H, F0, none, N.length⟩ (cxOf (L2.CX P w) P w K mg base N qual (defScope st) f cdv A outer s H E) (relV G) (defBody st) t (rho N.length xs) (mm xs) (fun _ r => r = .ok .non) X0 X0) :
    FnOk P w K mg base (L2.CX P w) (k + 1) f fd ps (spM G ps.length mm) := by
  refine FunD.ok Fd S (fun vs H Q E h => ?_) (fun cdv A outer s H vs Q E hr h => ?_)
  · obtain ⟨F, xs, _, _, e, _⟩ := h
    exact e
  · obtain ⟨F, xs, hs, r, e, p⟩ := h
    have tk : Takes (cxOf (L2.CX P w) P w K mg base N qual (defScope st) f cdv A outer s H E) (fun cls d _ H => E cls d H) := takes_of rfl rfl rfl rfl
    obtain ⟨t, hb⟩ := hbody cdv A outer s H E ⟨hr, passes_call tk fun _ _ _ _ h => h, tk, passes_of rfl⟩ F xs (by rw [← r.length]; exact e)
    refine ⟨t, hb.ps, ?_⟩
    have hl : vs.length ≤ N.length := by
      have := congrArg List.length S.pre
      rw [List.length_take] at this
      omega
    have s0 := at_start (G := G) (E := E) (N := N) hs r hl
    refine hb.bx { nx := fun _ H' => Q .non H', rt := Q } Q _ F H rfl (fun σ' F' H' ρ' r' _ q s' p' => ?_) (fun _ _ _ _ _ _ z => z.elim) (fun _ _ _ _ _ _ z => z.elim) s0 ?_
    · subst q
      exact p' .non F' H' (Same.refl _) s'.sub s'.kept s'.fresh rfl
    · cases hm : mm xs with
      | no => rw [hm] at p; exact p
      | ok y =>
        rw [hm] at p
        exact fun v F' H' a1 a2 a3 a4 a5 => p v F' H' ⟨a1, a2, fun b o q => a3 b o q (fun z => nomatch z), a4⟩ a5
      | err ex =>
        rw [hm] at p
        exact fun cl d F' H' a1 a2 a3 a4 a5 => p cl d F' H' ⟨a1, a2, fun b o q => a3 b o q (fun z => nomatch z), a4⟩ a5
theorem fnI2 {P : Program} {w : World} {K : PySem.W.Frag} {mg : Str → Option Value} {base : Heap} {G : Glo} {x qual : Str} {st : Stmt} {f : Addr} {fd : FuncData} {N ps : List Str} {n k c0 : Nat} {dvs : List V} {mi : List Val → Res (List Val)} (Fd : FnD K x qual st dvs f fd) (S : FnScope N ps (defScope st)) (hps : ps.length = n + 1) (d : List Val) (hd : d.length = n)
    (hbody : ∀ (cdv : Value) (A : Around) (outer : List PySem.Env) (s : Shared) (H : Hp) (E : XK), Bd P w k E (cxOf (L2.CX P w) P w K mg base N qual (defScope st) f cdv A outer s H E) →
      ∀ (F0 : Hp) (a : Addr) (xs : List Val), xs.length = n → ∃ t, SB ⟨G, E, H, F0, some a, N.length⟩ (cxOf (L2.CX P w) P w K mg base N qual (defScope st) f cdv A outer s H E) (relI G c0 a) (defBody st) t (rhoI N.length c0 xs) (mi xs) (doneI c0 (G.flds c0).length) X0 X0) :
    FnOk P w K mg base (L2.CX P w) (k + 1) f fd ps (spI G c0 n mi) := by
  refine FunD.ok Fd S (fun vs H Q E h => ?_) (fun cdv A outer s H vs Q E hr h => ?_)
  · obtain ⟨F, xs, a, dx, ws, rfl, _, _, _, _, e, _⟩ := h
    rw [List.length_cons, e, hps]
  · obtain ⟨F, xs, a, dx, ws, rfl, ha, hF, hs, r, e, p⟩ := h
    have tk : Takes (cxOf (L2.CX P w) P w K mg base N qual (defScope st) f cdv A outer s H E) (fun cls d _ H => E cls d H) := takes_of rfl rfl rfl rfl
    obtain ⟨t, hb⟩ := hbody cdv A outer s H E ⟨hr, passes_call tk fun _ _ _ _ h => h, tk, passes_of rfl⟩ F a xs (by rw [← r.length]; exact e)
    refine ⟨t, hb.ps, ?_⟩
    have hl : ws.length + 1 ≤ N.length := by
      have := congrArg List.length S.pre
      rw [List.length_take] at this
      omega
    have s0 := at_startI (G := G) (E := E) (N := N) (k := c0) hs ha hF r hl
    refine hb.bx { nx := fun _ H' => Q .non H', rt := Q } Q _ F H rfl (fun σ' F' H' ρ' r' _ q s' p' => ?_) (fun _ _ _ _ _ _ z => z.elim) (fun _ _ _ _ _ _ z => z.elim) s0 ?_
    · obtain ⟨ys, q1, q2, rfl⟩ := q
      obtain ⟨b, dx', us, e0, e1, h1, h2, l, rl⟩ := s'.slfs 0 c0 ys q1
      cases e0
      exact p' .non F' H' (Same.refl _) s'.sub s'.kept s'.fresh ⟨rfl, h2, dx', us, h1, by rw [rl.length]; exact q2, rl⟩
    · cases hm : mi xs with
      | no => rw [hm] at p; exact p
      | ok ys =>
        rw [hm] at p
        intro v F' H' a1 a2 a3 a4 a5
        obtain ⟨rfl, hFa, dx', us, h1, h2, h3⟩ := a5
        exact p F' H' dx' us a1 a2 (fun b o q n => a3 b o q fun z => n (by cases z; rfl)) a4 h1 h2 h3
      | err ex =>
        rw [hm] at p
        exact fun cl dd F' H' a1 a2 a3 a4 a5 => p cl dd F' H' a1 a2 (fun b o q n => a3 b o q fun z => n (by cases z; rfl)) a4 a5
theorem fnSP2 {P : Program} {w : World} {K : PySem.W.Frag} {mg : Str → Option Value} {base : Heap} {G : Glo} {x qual : Str} {st : Stmt} {f : Addr} {fd : FuncData} {N ps : List Str} {k n : Nat} {dvs : List V} {mm : List Val → List Val → Res (Val × List Val)} (Fd : FnD K x qual st dvs f fd) (S : FnScope N ps (defScope st)) (hps : ps.length = n + 1) (d : List Val) (hd : d.length = n)
    (hbody : ∀ (cdv : Value) (A : Around) (outer : List PySem.Env) (s : Shared) (H : Hp) (E : XK), BdG P w k E (cxOf (L2.CX P w) P w K mg base N qual (defScope st) f cdv A outer s H E) →
      ∀ (F0 : Hp) (a : Addr) (pot xs : List Val), xs.length = n → ∃ t, SB ⟨G, E, H, F0, some a, N.length⟩ (cxOf (L2.CX P w) P w K mg base N qual (defScope st) f cdv A outer s H E) (relP G a) (defBody st) t (rhoP N.length xs pot) (mm pot xs) X0 X0 X0) :
    FnG P w K mg base (k + 1) f fd ps (spQ G n mm) := by
  refine fnG_of Fd S (fun vs H Q E h => ?_) (fun cdv A outer s H vs Q E hgd hr h => ?_)
  · obtain ⟨F, a, ws, us, pot, xs, rfl, e, _⟩ := h
    rw [List.length_cons, e, hps]
  · obtain ⟨F, a, ws, us, pot, xs, rfl, e, ha, hF, hul, hs, hur, r, p⟩ := h
    have tk : Takes (cxOf (L2.CX P w) P w K mg base N qual (defScope st) f cdv A outer s H E) (fun cls d _ H => E cls d H) := takes_of rfl rfl rfl rfl
    obtain ⟨t, hb⟩ := hbody cdv A outer s H E ⟨⟨hr, passes_call tk fun _ _ _ _ h => h, tk, passes_of rfl⟩, hgd⟩ F a pot xs (by rw [← r.length]; exact e)
    refine ⟨t, hb.ps, ?_⟩
    have hl : ws.length + 1 ≤ N.length := by
      have := congrArg List.length S.pre
      rw [List.length_take] at this
      omega
    have s0 := at_startP (G := G) (E := E) (N := N) hs ha hF hul hur r hl
    refine hb.bx { nx := fun _ H' => Q .non H', rt := Q } Q _ F H rfl (fun _ _ _ _ _ _ z => z.elim) (fun _ _ _ _ _ _ z => z.elim) (fun _ _ _ _ _ _ z => z.elim) s0 ?_
    cases hm : mm pot xs with
    | no => rw [hm] at p; exact p
    | err ex => rw [hm] at p; exact p.elim
    | ok y =>
      rw [hm] at p
      intro v F' H' a1 a2 a3 a4 a5
      obtain ⟨rv, us', h1, h2, h3, h4⟩ := a5
      exact p v F' H' us' a1 a2 (fun b o q n => a3 b o q fun z => n (by cases z; rfl)) a4 h1 h2 h3 h4 rv
theorem fnSN2 {P : Program} {w : World} {K : PySem.W.Frag} {mg : Str → Option Value} {base : Heap} {G : Glo} {x qual : Str} {st : Stmt} {f : Addr} {fd : FuncData} {N ps : List Str} {k : Nat} {dvs : List V} {mm : List Val → Res (List Val)} (Fd : FnD K x qual st dvs f fd) (S : FnScope N ps (defScope st)) (d : List Val) (hd : d.length = ps.length)
    (hbody : ∀ (cdv : Value) (A : Around) (outer : List PySem.Env) (s : Shared) (H : Hp) (E : XK), BdG P w k E (cxOf (L2.CX P w) P w K mg base N qual (defScope st) f cdv A outer s H E) →
      ∀ (F0 : Hp) (xs : List Val), xs.length = ps.length → ∃ t, SB ⟨G, E, H, F0, none, N.length⟩ (cxOf (L2.CX P w) P w K mg base N qual (defScope st) f cdv A outer s H E) (relN G H) (defBody st) t (rho N.length xs) (mm xs) X0 X0 X0) :
    FnG P w K mg base (k + 1) f fd ps (spN G ps.length mm) := by
  refine fnG_of Fd S (fun vs H Q E h => ?_) (fun cdv A outer s H vs Q E hgd hr h => ?_)
  · obtain ⟨F, xs, _, _, e, _⟩ := h
    exact e
  · obtain ⟨F, xs, hs, r, e, p⟩ := h
    have tk : Takes (cxOf (L2.CX P w) P w K mg base N qual (defScope st) f cdv A outer s H E) (fun cls d _ H => E cls d H) := takes_of rfl rfl rfl rfl
    obtain ⟨t, hb⟩ := hbody cdv A outer s H E ⟨⟨hr, passes_call tk fun _ _ _ _ h => h, tk, passes_of rfl⟩, hgd⟩ F xs (by rw [← r.length]; exact e)
    refine ⟨t, hb.ps, ?_⟩
    have hl : vs.length ≤ N.length := by
      have := congrArg List.length S.pre
      rw [List.length_take] at this
      omega
    have s0 := at_start (G := G) (E := E) (N := N) hs r hl
    refine hb.bx { nx := fun _ H' => Q .non H', rt := Q } Q _ F H rfl (fun _ _ _ _ _ _ z => z.elim) (fun _ _ _ _ _ _ z => z.elim) (fun _ _ _ _ _ _ z => z.elim) s0 ?_
    cases hm : mm xs with
    | no => rw [hm] at p; exact p
    | err ex => rw [hm] at p; exact p.elim
    | ok ys =>
      rw [hm] at p
      intro v F' H' a1 a2 a3 a4 a5
      obtain ⟨a, us, rfl, h1, h2, h3, h4, h5⟩ := a5
      exact p a F' H' us ⟨a1, a2, fun b o q => a3 b o q (fun z => nomatch z), a4⟩ h1 h2 h3 h4 h5
/-! ### ways on, by name -/
def JX {S α : Type} (j : S → Res α) (ρj : S → Ros) : Exit α := fun ρ' r' => ∃ s, ρ' = ρj s ∧ r' = j s
def LX {S α : Type} (loop : List Val → S → Res α) (ρh : S → Ros) (xs : List Val) : Exit α := fun ρ2 r2 => ∃ s', ρ2 = ρh s' ∧ r2 = loop xs s'
def WX1 {S α : Type} (loop : Nat → S → Res α) (ρh : S → Ros) (n : Nat) : Exit α := fun ρ2 r2 => ∃ s', ρ2 = ρh s' ∧ r2 = loop n s'
section
variable {α : Type} {c : Cxt} {X : Cx} {rel : Hp → Hp → V → α → Prop} {A Bs rest sts body : List Stmt} {t u tr tb : TS} {ρ ρ' : Ros} {r : Res α} {N C B : Exit α} {te : TE} {tt : TT} {e cnd it : Expr} {mb : Res Bool} {mi : Res (List Val)} {pos : Pos} {wi : TI} {i : Nat} {xs : List Val} {S : Type}
theorem s_join {j : S → Res α} {ρj : S → Ros} (s : S) (w : Weak ρ (ρj s)) (h : r = j s := by rfl) : SB c X rel [] tNext ρ r (JX j ρj) C B := sb_end w ⟨s, rfl, h⟩
theorem s_turn {loop : List Val → S → Res α} {ρh : S → Ros} (s : S) (w : Weak ρ (ρh s)) (h : r = loop xs s := by rfl) : SB c X rel [] tNext ρ r (LX loop ρh xs) C B := sb_end w ⟨s, rfl, h⟩
theorem s_wturn {loop : Nat → S → Res α} {ρh : S → Ros} {n : Nat} (s : S) (w : Weak ρ (ρh s)) (h : r = loop n s := by rfl) : SB c X rel [] tNext ρ r (WX1 loop ρh n) C B := sb_end w ⟨s, rfl, h⟩
theorem s_cont {loop : List Val → S → Res α} {ρh : S → Ros} (s : S) (w : Weak ρ (ρh s)) (h : r = loop xs s := by rfl) : SB c X rel [.Continue pos] tCont ρ r N (LX loop ρh xs) B := sb_cont w ⟨s, rfl, h⟩
theorem s_break {loop : List Val → S → Res α} {ρh : S → Ros} (s : S) (w : Weak ρ (ρh s)) (h : r = loop [] s := by rfl) : SB c X rel [.Break pos] tBreak ρ r N C (LX loop ρh []) := sb_break w ⟨s, rfl, h⟩
theorem s_ifJ2 {j : S → Res α} {f1 f2 : (S → Res α) → Res α} (ρj : S → Ros) (s0 : S) (he : ET c X cnd tt ρ mb) (hA : SB c X rel A t ρ (f1 j) (JX j ρj) C B) (hB : SB c X rel Bs u ρ (f2 j) (JX j ρj) C B)
    (hr : ∀ s, SB c X rel rest tr (ρj s) (j s) N C B) : SB c X rel (.If cnd A Bs pos :: rest) (tSeq (tIfS tt t u) tr) ρ (joinR j fun j => iteR mb (f1 j) (f2 j)) N C B := sb_ifJ j ρj s0 he hA hB hr
theorem s_for {y : Str} {py : Pos} (loop : List Val → S → Res α) (ρh : S → Ros) (s0 : S) (hp : PassesOwn (model X.prog X.w) X.A X.env X.xe) (hcalm : X.calm = true) (hi : EI c X (.Name y py) it wi ρ mi) (hw : Weak ρ (ρh s0)) (hN : X.N.Nodup) (hi2 : X.N[i]? = some y) (hx : Loc X.env.scope y) (hn : i < c.n)
    (hb : ∀ x xs s, SB c X rel body tb ((ρh s).set i (some (.val x))) (loop (x :: xs) s) (LX loop ρh xs) (LX loop ρh xs) (LX loop ρh []))
    (hd : ∀ s, SB c X rel rest tr (ρh s) (loop [] s) N C B) (hs : ∀ x, foldedSetIterable it X.env x = pure x := by intro _; rfl) (hf : X.fn y = true ∨ X.env.scope.names.lookup y = some .local := by first | exact .inl rfl | exact .inr rfl | assumption) :
    SB c X rel (.For (.Name y py) it body [] pos :: rest) (tSeq (tFor wi (gName i) tb) tr) ρ (mi >>= fun xs => loop xs s0) N C B := Mir.s_for_ loop ρh s0 hp hcalm hi hw hN hi2 hx hn hb hd hs hf
theorem s_while (loop : Nat → S → Res α) (mt : S → Res Bool) (mb : Nat → S → Res α) (mr : S → Res α) (ρh : S → Ros) (n0 : Nat) (s0 : S) (h0 : ∀ s, loop 0 s = .no) (hl : ∀ n s, loop (n + 1) s = iteR (mt s) (mb n s) (mr s)) (hw : Weak ρ (ρh s0)) (hp : PassesOwn (model X.prog X.w) X.A X.env X.xe) (ht : ∀ s, ET c X cnd tt (ρh s) (mt s))
    (hb : ∀ n s, SB c X rel body tb (ρh s) (mb n s) (WX1 loop ρh n) (WX1 loop ρh n) (JX mr ρh)) (hd : ∀ s, SB c X rel rest tr (ρh s) (mr s) N C B) :
    SB c X rel (.While cnd body [] pos :: rest) (tSeq (tWhile tt tb) tr) ρ (loop n0 s0) N C B := sb_while loop mt mb mr ρh n0 s0 h0 hl hw hp ht hb hd
end
section
variable {α : Type} {c : Cxt} {X : Cx} {rel : Hp → Hp → V → α → Prop} {A Bs rest sts body : List Stmt} {t u tr tb : TS} {ρ : List Val → Ros} {N C B : Exit α} {tt : TT} {cnd it : Expr} {mb : FM Bool} {mi : FM (List Val)} {pos : Pos} {wi : TI} {i : Nat} {xs : List Val} {S : Type}
theorem s_ifJ2F {j : S → Res α} {f1 f2 : (S → Res α) → List Val → Res α} (ρj : S → Ros) (s0 : S) (he : EFT c X cnd tt ρ mb) (hA : ∀ ys, SB c X rel A t (ρ ys) (f1 j ys) (JX j ρj) C B) (hB : ∀ ys, SB c X rel Bs u (ρ ys) (f2 j ys) (JX j ρj) C B)
    (hr : ∀ s, SB c X rel rest tr (ρj s) (j s) N C B) : SB c X rel (.If cnd A Bs pos :: rest) (tSeq (tIfS tt t u) tr) (ρ xs) (joinR j fun j => iteF (mb xs) (f1 j) (f2 j)) N C B := s_ifJF j ρj s0 he hA hB hr
theorem s_forF {y : Str} {py : Pos} (loop : List Val → S → Res α) (ρh : S → Ros) (s0 : List Val → S) (hp : PassesOwn (model X.prog X.w) X.A X.env X.xe) (hcalm : X.calm = true) (hi : EIF c X (.Name y py) it wi ρ mi) (hw : ∀ ys, Weak (ρ ys) (ρh (s0 ys))) (hN : X.N.Nodup) (hi2 : X.N[i]? = some y) (hx : Loc X.env.scope y) (hn : i < c.n)
    (hb : ∀ x xs s, SB c X rel body tb ((ρh s).set i (some (.val x))) (loop (x :: xs) s) (LX loop ρh xs) (LX loop ρh xs) (LX loop ρh []))
    (hd : ∀ s, SB c X rel rest tr (ρh s) (loop [] s) N C B) (hs : ∀ x, foldedSetIterable it X.env x = pure x := by intro _; rfl) (hf : X.fn y = true ∨ X.env.scope.names.lookup y = some .local := by first | exact .inl rfl | exact .inr rfl | assumption) :
    SB c X rel (.For (.Name y py) it body [] pos :: rest) (tSeq (tFor wi (gName i) tb) tr) (ρ xs) (bindF (mi xs) fun l ys => loop l (s0 ys)) N C B := Mir.s_forF_ loop ρh s0 hp hcalm hi hw hN hi2 hx hn hb hd hs hf
end
/-! ### cls(..), the class as handed -/
def onCls {α : Type} (k : Nat) (x : Val) (r : Res α) : Res α := match x with
  | .cls c => if c = k then r else .no
  | _ => .no
@[simp] theorem onCls_eq {α : Type} {k : Nat} {r : Res α} : onCls k (.cls k) r = r := if_pos rfl
section
variable {c : Cxt} {X : Cx} {es : List Expr} {kws : List Keyword} {ks : List Str} {tA tK : TA} {ρ : Ros} {ml mk : Res (List Val)} {pos po : Pos} {x : Str} {j n nn k i : Nat} {f : Addr} {fd : FuncData} {ps : List Str} {p : List Nat} {ds : List Val} {dvs : List V} {mi : List Val → Res (List Val)} {v : Val}
theorem x_makeLc (M : Mk X.K (c.G.cls k) f) (d : DfP X j f fd ps (spI c.G k nn mi) (n + 1) ks (0 :: p.map Nat.succ) dvs) (hr : Room (j + 1) X.A) (hx : Passes (L2.CX X.prog X.w) X c.E) (hv : EX c X (.Name x po) (tVar i) ρ (.ok v)) (h : EA c X es tA ρ ml) (h2 : EK c X kws tK ρ mk) (hd : ∀ F, RepL c.G F ds dvs) (ap : AP2 X pos es kws ks tA)
    (hn : ∀ xs, ml = .ok xs → xs.length = n) (hm : ∀ xs, mk = .ok xs → xs.length = ks.length) (hl : ∀ vs zs : List V, vs.length = n → zs.length = ks.length → (pick p (vs ++ zs ++ dvs)).length = nn) :
    EX c X (.Call (.Name x po) es kws pos) (fun σ H Q => tVar i σ H fun v H1 => v = .ref (c.G.cls k) ∧ tMakeK (c.G.cls k) n ks.length (spI c.G k nn mi) (fun vs zs => pick (0 :: p.map Nat.succ) (vs ++ zs ++ dvs)) c.E tA tK σ H1 Q) ρ (onCls k v (makeM k ml mk p ds mi)) := by
  by_cases hc : v = .cls k
  · subst hc
    rw [onCls_eq]
    exact x_makeL M d hr hx hv h h2 hd ap hn hm hl
  · have e : onCls k v (makeM k ml mk p ds mi) = .no := by
      unfold onCls
      split
      · rename_i c'
        by_cases hk : c' = k
        · subst hk; exact absurd rfl hc
        · rw [if_neg hk]
      · rfl
    rw [e]
    have hi : (List.replicate i none ++ [some (Ent.val (.cls k))] : Ros)[i]? = some (some (.val (.cls k))) := by simp
    exact ⟨(x_makeL (ρ := List.replicate i none ++ [some (Ent.val (.cls k))]) (ml := .no) (mk := .no) (ds := ds) M d hr hx (ex_var hv.pe hi) ⟨h.pa, fun _ _ _ _ _ p => p.elim⟩ ⟨h2.pk, fun _ _ _ _ _ p => p.elim⟩ hd ap (fun _ z => nomatch z) (fun _ z => nomatch z) hl).pe, fun _ _ _ _ _ p => p.elim⟩
end
end Mir
namespace Mir
open PySem PySem.Spec PyProof.Rows L2
section
variable {α : Type} {c : Cxt} {X : Cx} {rel : Hp → Hp → V → α → Prop} {rest : List Stmt} {tr : TS} {ρ : Ros} {N C B : Exit α} {te ta tb : TE} {ea eb : Expr} {m1 m2 : Res Val} {pos px py pz pt pt2 p3 : Pos} {i j k kt k2 : Nat} {x y z : Str}
theorem s_par2' {f : Val → Val → Res α} (hN : X.N.Nodup) (hi2 : X.N[i]? = some x) (hj2 : X.N[j]? = some y) (hij : i ≠ j) (hx : X.env.scope.names.lookup x = some .local) (hy : X.env.scope.names.lookup y = some .local) (h1 : EX c X ea ta ρ m1) (h2 : EX c X eb tb ρ m2) (hi : i < c.n) (hj : j < c.n) (h : ∀ x y, SB c X rel rest tr ((ρ.set i (some (.val x))).set j (some (.val y))) (f x y) N C B)
    (hc : X.calm = true := by rfl) (hw : swappedStores [.Tuple [.Name x px, .Name y py] kt pt] (.Tuple [ea, eb] k2 pt2) X.env = pure (some [x, y]) := by rfl) (hs : swapsWithSole [.Tuple [.Name x px, .Name y py] kt pt] (.Tuple [ea, eb] k2 pt2) pos.line X.env = pure false := by rfl)
    (he1 : starEach [ea, eb] X.env = (false, eval ea X.env) :: starEach [eb] X.env := by rfl) (he2 : starEach [eb] X.env = (false, eval eb X.env) :: starEach [] X.env := by rfl) :
    SB c X rel (.Assign [.Tuple [.Name x px, .Name y py] kt pt] (.Tuple [ea, eb] k2 pt2) pos :: rest) (tSeq (tPar i j (tCons ta (tCons tb tNil))) tr) ρ (m1 >>= fun x => m2 >>= fun y => f x y) N C B :=
  s_par2 (ps_par hc hN hi2 hj2 hij hx hy (pa_cons h1.pe (pa_cons h2.pe pa_nil he2) he1) hw hs) h1 h2 hi hj h
theorem s_par3L' {f : Val → Val → Res α} (hN : X.N.Nodup) (hi2 : X.N[i]? = some x) (hj2 : X.N[j]? = some y) (hk2 : X.N[k]? = some z) (hij : i ≠ j) (hik : i ≠ k) (hjk : j ≠ k) (hx : X.env.scope.names.lookup x = some .local) (hy : X.env.scope.names.lookup y = some .local) (hz : X.env.scope.names.lookup z = some .local) (h1 : EX c X ea ta ρ m1) (h2 : EX c X eb tb ρ m2) (hi : i < c.n) (hj : j < c.n) (hk : k < c.n) (h : ∀ x y, SB c X rel rest tr (((ρ.set i (some (.val x))).set j (some (.val y))).set k (some (.mut []))) (f x y) N C B)
    (hc : X.calm = true := by rfl) (hw : swappedStores [.Tuple [.Name x px, .Name y py, .Name z pz] kt pt] (.Tuple [ea, eb, .List [] p3] k2 pt2) X.env = pure (some [x, y, z]) := by rfl) (hs : swapsWithSole [.Tuple [.Name x px, .Name y py, .Name z pz] kt pt] (.Tuple [ea, eb, .List [] p3] k2 pt2) pos.line X.env = pure false := by rfl)
    (he1 : starEach [ea, eb, .List [] p3] X.env = (false, eval ea X.env) :: starEach [eb, .List [] p3] X.env := by rfl) (he2 : starEach [eb, .List [] p3] X.env = (false, eval eb X.env) :: starEach [.List [] p3] X.env := by rfl) (he3 : starEach [.List [] p3] X.env = (false, eval (.List [] p3) X.env) :: starEach [] X.env := by rfl) :
    SB c X rel (.Assign [.Tuple [.Name x px, .Name y py, .Name z pz] kt pt] (.Tuple [ea, eb, .List [] p3] k2 pt2) pos :: rest) (tSeq (tPar3 i j k (tCons ta (tCons tb (tCons (tLst tNil) tNil)))) tr) ρ (m1 >>= fun x => m2 >>= fun y => f x y) N C B :=
  s_par3L (ps_par3 hc hN hi2 hj2 hk2 hij hik hjk hx hy hz (pa_cons h1.pe (pa_cons h2.pe (pa_cons (pe_lst pa_nil) pa_nil he3) he2) he1) hw hs) h1 h2 hi hj hk h
end
section
variable {α : Type} {c : Cxt} {X : Cx} {rel : Hp → Hp → V → α → Prop} {rest : List Stmt} {tr : TS} {ρ : List Val → Ros} {N C B : Exit α} {ti : TE} {o1 o2 ez : Expr} {pos p1 p2 pt pd pc py q1 q2 : Pos} {xs : List Val} {i k kt j1 j2 : Nat} {w : List Val → Ent} {y : Str}
/-- y[0], d = divmod(y[0], e) -/
theorem s_digit {z : Val} {f : Val → List Val → Res α} (P : PotAt ρ k w) (hK : X.K = c.G.K) (ho1 : PE X o1 (tVar k)) (ho2 : PE X o2 (tVar k)) (hg : Gl X "divmod") (hm : X.mg "divmod" = none) (he : EX c X ez ti (ρ xs) (.ok z)) (hN : X.N.Nodup) (hi2 : X.N[i]? = some y) (hx : Loc X.env.scope y) (hik : i ≠ k) (hin : i < c.n)
    (h : ∀ y ys, SB c X rel rest tr ((ρ ys).set i (some (.val y))) (f y ys) N C B) (hf : X.fn y = true ∨ X.env.scope.names.lookup y = some .local := by first | exact .inl rfl | exact .inr rfl | assumption) (hc : X.calm = true := by rfl)
    (hs : swapsWithSole [.Tuple [.Subscript o1 (.Constant (.int 0) j1 q1) p1, .Name y py] kt pt] (.Call (.Name "divmod" pd) [.Subscript o2 (.Constant (.int 0) j2 q2) p2, ez] [] pc) pos.line X.env = pure false := by rfl) (hw : swappedStores [.Tuple [.Subscript o1 (.Constant (.int 0) j1 q1) p1, .Name y py] kt pt] (.Call (.Name "divmod" pd) [.Subscript o2 (.Constant (.int 0) j2 q2) p2, ez] [] pc) X.env = pure none := by rfl)
    (h5 : (assignEach [.Tuple [.Subscript o1 (.Constant (.int 0) j1 q1) p1, .Name y py] kt pt] X.env).map (·.2) = [assign (.Tuple [.Subscript o1 (.Constant (.int 0) j1 q1) p1, .Name y py] kt pt) X.env] := by rfl)
    (he1 : starEach [.Subscript o2 (.Constant (.int 0) j2 q2) p2, ez] X.env = (false, eval (.Subscript o2 (.Constant (.int 0) j2 q2) p2) X.env) :: starEach [ez] X.env := by rfl) (he2 : starEach [ez] X.env = (false, eval ez X.env) :: starEach [] X.env := by rfl) (hpl : (backTo pc (starEach [ez] X.env)).any (·.1) = false := by rfl)
    (k1 : (assignEach [.Subscript o1 (.Constant (.int 0) j1 q1) p1, .Name y py] X.env).length = 2 := by rfl) (k2 : (assignEach [.Subscript o1 (.Constant (.int 0) j1 q1) p1, .Name y py] X.env).findIdx? (·.1) = none := by rfl) (k3 : (assignEach [.Subscript o1 (.Constant (.int 0) j1 q1) p1, .Name y py] X.env).map (·.2) = assign (.Subscript o1 (.Constant (.int 0) j1 q1) p1) X.env :: (assignEach [.Name y py] X.env).map (·.2) := by rfl) (k4 : (assignEach [.Name y py] X.env).map (·.2) = assign (.Name y py) X.env :: (assignEach [] X.env).map (·.2) := by rfl)
    (ha : ∀ v, assign (.Subscript o1 (.Constant (.int 0) j1 q1) p1) X.env v = (do
      let ov ← holding [v] (eval o1 X.env)
      let iv ← holding [v, ov] (eval (.Constant (.int 0) j1 q1) X.env)
      standAt p1
      holding [v, ov, iv] (setItem ov iv v)
      release [v, ov, iv] []) := by intro _; rfl) :
    SB c X rel (.Assign [.Tuple [.Subscript o1 (.Constant (.int 0) j1 q1) p1, .Name y py] kt pt] (.Call (.Name "divmod" pd) [.Subscript o2 (.Constant (.int 0) j2 q2) p2, ez] [] pc) pos :: rest) (tSeq (tAsg (tCB (fun xs H Q => ∃ i j, xs = [.int i, .int j] ∧ CDivP i j ∧ ∀ p, H p = none → Q (.ref p) (upd H p (.tup [.int (i / j), .int (i % j)]))) (tCons (tOp (rIxL X.K) (tVar k) (tC (.int 0))) (tCons ti tNil))) (gTup X.K 2 (gCons (gSub (tVar k) (tC (.int 0)) rSetL) (gCons (gName i) gNil)))) tr) (ρ xs) (digitR xs z f) N C B :=
  sb_digit P hK (ps_asg (pe_callB call_divmodW hg hm bt_divmod (pa_cons (pe_ix ix_list ho2 pe_int (by intro _ _; rfl)) (pa_cons he.pe pa_nil he2) he1) (by decide) (by decide) he1 hpl) (pg_tup hc (pgs_cons (pg_sub ho1 pe_int set_list ha) (pgs_cons (pg_name hN hi2 hx hf) pgs_nil k4) k3) k1 k2) hs hw h5) hik hin he.ev (h .non xs).ps h
end
theorem sb_as {α : Type} {c : Cxt} {X : Cx} {rel : Hp → Hp → V → α → Prop} {sts : List Stmt} {t : TS} {ρ : Ros} {r : Res α} {N C B : Exit α} (r' : Res α) (h : SB c X rel sts t ρ r' N C B) (e : r = r' := by rfl) : SB c X rel sts t ρ r N C B := e ▸ h
end Mir
namespace Mir
open PySem PySem.Spec PyProof.Rows L2
/-! ### the end -/
section
variable {P : Program} {w : World} {K : PySem.W.Frag} {mg : Str → Option Value} {base : Heap} {k : Nat} {f : Addr} {fd : FuncData} {ps : List Str} {sp sp' : Sp} {x qual : Str} {st : Stmt}
theorem FnG.weak (F : FnG P w K mg base k f fd ps sp) (h : ∀ vs H Q E, sp' vs H Q E → sp vs H Q E) : FnG P w K mg base k f fd ps sp' :=
  ⟨fun vs H Q E q => F.len _ _ _ _ (h _ _ _ _ q), fun A outer s H args us vs Q E g r e b v q => F.go A outer s H args us vs Q E g r e b v (h _ _ _ _ q)⟩
theorem binds0 (F : FnD K x qual st [] f fd) (h : ∀ (kV doc pm : Value) (an : Option Addr) (cdv ct : Value) (us : List Value), us.length = ps.length → bindArgs (PySem.W.fnOf x qual (defArgs st) (defBody st) (defScope st) .none kV doc pm an cdv ct) ⟨us, []⟩ = pure (ps.zip us)) : Binds K fd ps [] := by
  obtain ⟨oc, od, dV, kV, doc, pm, an, cdv, ct, osl, rfl, lk, hcd, hD, hK⟩ := F.ex
  rcases hD with ⟨_, rfl⟩ | ⟨e, _⟩
  · exact .all (h kV doc pm an cdv ct)
  · exact absurd rfl e
/-- what a law promises -/
def spLaw (K : PySem.W.Frag) : Sp := fun vs H Q _ => ∃ (a : Addr) (ns : List Int), vs = [.ref a] ∧ SqL K H a (ns.map V.int) ∧ ns.length ≤ 63 ∧ ∀ H', Q (.bl true) H'
theorem repL_ints {G : Glo} {F : Hp} : ∀ ns : List Int, RepL G F (ns.map Val.int) (ns.map V.int)
  | [] => RepL.nil
  | n :: ns => RepL.cons rfl (repL_ints ns)
theorem spLaw_of {G : Glo} {m : Val → Res Val} (hm : ∀ ns : List Int, ns.length ≤ 63 → m (.lst (ns.map Val.int)) = .ok (.bl true)) : ∀ vs H Q E, spLaw G.K vs H Q E → spM G 1 (a1 m) vs H Q E := by
  rintro vs H Q E ⟨a, ns, rfl, hS, hl, hq⟩
  refine ⟨H, [.lst (ns.map Val.int)], Same.refl _, RepL.cons ?_ RepL.nil, rfl, ?_⟩
  · simp only [Rep]
    exact ⟨a, ns.map V.int, rfl, hS, by rw [List.length_map]; exact Nat.le_trans hl (by decide), repL_ints ns⟩
  · show PostX G E (Rep G) H H Q (m (.lst (ns.map Val.int)))
    rw [hm ns hl]
    intro v F' H' _ r
    have e : v = .bl true := r
    rw [e]
    exact hq H'
theorem walkL {lev : Nat} {l : PySem.W.OpenLaw} {q : Program} {loose : List Str} {XP : (Str → Option Value) → Heap → Prop} {YP : World → Heap → Prop} {d : DefRec} {K : Params → PySem.W.Frag} (hr : Room lev callerA) (hn : l.most = some 63) (hdf : d.params.defaults = [])
    (hY : ∀ (w : World) (h : Heap), YP w h → (K w.params).In h)
    (F : ∀ (w : World) (mg : Str → Option Value) (fa : Addr) (h : Heap), (K w.params).In h → h.Ns mainGlobals mg → mg d.name = some (.ref fa) →
      ∃ fd : FuncData, (∀ (s : Shared) (u : Value), BindsTo s fd ⟨[u], []⟩ [("_law_script", u)]) ∧ ∀ base : Heap, (K w.params).In base → base.Ns mainGlobals mg → FnG l.prog w (K w.params) mg base lev fa fd ["_law_script"] (spLaw (K w.params))) :
    PySem.W.WalkO q loose XP YP l.row.toRowW d [] (fun f vs => PySem.call f vs) :=
  walkG (n := 63) (k := lev) (x := "_law_script") (sp := fun w => spLaw (K w.params)) hn (by decide) hdf hr hY F fun w H a ns hl hS => ⟨a, ns, rfl, hS, hl, fun _ => rfl⟩
end
/-- one class -/
theorem kinds1 {G : Glo} {C : Addr} (hn : G.n = 1) (hc : G.cls 0 = C) (ob : Cls G.K C) (ha : PySem.W.findIn G.K (.ref C) "__class__" = some (some (.builtin "object.__class__"))) (h1 : PySem.W.specialIn G.K (.builtin "object.__class__") "__get__" = some (some (.builtin "getset_descriptor.__get__")))
    (ht : PySem.W.takesIn G.K (.builtin "object.__class__") = some true) (hm : PySem.W.mroIn G.K C (.type "object") = some true)
    (b1 : PySem.W.kitOne G.K (.ref C) (.type "int") = some false) (b2 : PySem.W.kitOne G.K (.ref C) (.type "bool") = some false) (b3 : PySem.W.kitOne G.K (.ref C) (.type "list") = some false) (b4 : PySem.W.kitOne G.K (.ref C) (.type "tuple") = some false) (b5 : PySem.W.kitOne G.K (.ref C) (.type "str") = some false)
    (n1 : PySem.W.kitOne G.K (.type "NoneType") (.ref C) = some false) (n2 : PySem.W.kitOne G.K (.type "bool") (.ref C) = some false) (n3 : PySem.W.kitOne G.K (.type "int") (.ref C) = some false) (n4 : PySem.W.kitOne G.K (.type "str") (.ref C) = some false) (n5 : PySem.W.kitOne G.K (.type "list") (.ref C) = some false) (n6 : PySem.W.kitOne G.K (.type "tuple") (.ref C) = some false)
    (oo : PySem.W.kitOne G.K (.ref C) (.ref C) = some true) : Kinds G := by
  have z : ∀ k, k < G.n → k = 0 := fun k h => by omega
  refine ⟨fun k h => ?_, fun k h => ?_, h1, ht, fun k h => ?_, fun k h T hT => ?_, fun k h T hT => ?_, fun k j hk hj => ?_⟩
  · rw [z k h, hc]; exact ob
  · rw [z k h, hc]; exact ha
  · rw [z k h, hc]; exact hm
  · rw [z k h, hc]
    simp only [List.mem_cons, List.not_mem_nil, or_false] at hT
    rcases hT with rfl | rfl | rfl | rfl | rfl <;> assumption
  · rw [z k h, hc]
    simp only [List.mem_cons, List.not_mem_nil, or_false] at hT
    rcases hT with rfl | rfl | rfl | rfl | rfl | rfl <;> assumption
  · rw [z k hk, z j hj, hc]; exact oo
theorem km_int : PySem.W.kitMeta "int" = true := by decide +kernel
theorem km_bool : PySem.W.kitMeta "bool" = true := by decide +kernel
theorem km_list : PySem.W.kitMeta "list" = true := by decide +kernel
theorem km_tuple : PySem.W.kitMeta "tuple" = true := by decide +kernel
theorem km_str : PySem.W.kitMeta "str" = true := by decide +kernel
section
variable {K : PySem.W.Frag} {C D : Addr} {T : String} {b : Bool}
theorem kit_ct (hm : PySem.W.kitMeta T = true) (hs : PySem.W.subIn K (.ref C) (.type T) = some b) : PySem.W.kitOne K (.ref C) (.type T) = some b := by
  have h : (Value.ref C == Value.type T) = false := Bool.eq_false_iff.mpr fun q => by cases beq_iff_eq.mp q
  unfold PySem.W.kitOne PySem.W.kitCls
  rw [h]
  show (if PySem.W.kitMeta T = true then _ else _) = _
  rw [if_pos hm]
  exact hs
theorem kit_oc {t : Value} (hne : (t == Value.ref C) = false) (hc : PySem.W.isClsIn K C = true) (ht : PySem.W.typeIn K (.ref C) = some (.type "type")) (hs : PySem.W.subIn K t (.ref C) = some b) : PySem.W.kitOne K t (.ref C) = some b := by
  unfold PySem.W.kitOne PySem.W.kitCls
  rw [hne]
  have hc' : (PySem.W.clsIn K C).isSome = true := hc
  show (if ((PySem.W.clsIn K C).isSome && PySem.W.typeIn K (.ref C) == some (.type "type")) = true then _ else _) = _
  rw [hc', ht, if_pos (by simp)]
  exact hs
theorem kit_tc (hc : PySem.W.isClsIn K C = true) (ht : PySem.W.typeIn K (.ref C) = some (.type "type")) (hs : PySem.W.subIn K (.type T) (.ref C) = some b) : PySem.W.kitOne K (.type T) (.ref C) = some b :=
  kit_oc (Bool.eq_false_iff.mpr fun q => by cases beq_iff_eq.mp q) hc ht hs
theorem kit_cc (h : C ≠ D) (hc : PySem.W.isClsIn K D = true) (ht : PySem.W.typeIn K (.ref D) = some (.type "type")) (hs : PySem.W.subIn K (.ref C) (.ref D) = some b) : PySem.W.kitOne K (.ref C) (.ref D) = some b :=
  kit_oc (Bool.eq_false_iff.mpr fun q => by cases beq_iff_eq.mp q; exact h rfl) hc ht hs
theorem kit_same : PySem.W.kitOne K (.ref C) (.ref C) = some true := by
  unfold PySem.W.kitOne
  rw [if_pos (by simp)]
end
end Mir
namespace Mir
open PySem PySem.Spec PyProof.Rows L2
def m_is_integer (a_value : Val) : Res (Val) := (vAnd ((.ok a_value) >>= isB 1 "int") (notV ((.ok a_value) >>= isB 1 "bool")))
def m_Ratio_top (a_self : Val) : Res (Val) := ((.ok a_self) >>= getF 0 0)
def m_Ratio_bottom (a_self : Val) : Res (Val) := ((.ok a_self) >>= getF 0 1)
def m_Ratio_sign (a_self : Val) : Res (Val) := (iteR (tst (op2 seq ((.ok a_self) >>= getF 0 0) (.ok (.int 0)))) (.ok (.int 0)) (iteR (tst (op2 igt ((.ok a_self) >>= getF 0 0) (.ok (.int 0)))) (.ok (.int 1)) ((.ok (.int 1)) >>= ineg)))
def m_Ratio_is_whole (a_self : Val) : Res (Val) := (op2 seq ((.ok a_self) >>= getF 0 1) (.ok (.int 1)))
def m_Ratio_str (a_self : Val) : Res (Val) := (iteR (tst (op2 seq ((.ok a_self) >>= getF 0 1) (.ok (.int 1)))) ((consR ((.ok a_self) >>= getF 0 0) (.ok [])) >>= bStrI) (joinS Str.empty [(((.ok a_self) >>= getF 0 0) >>= fmtV), (.ok (.str "/")), (((.ok a_self) >>= getF 0 1) >>= fmtV)]))
def m_Ratio_repr (a_self : Val) : Res (Val) := (joinS Str.empty [(.ok (.str "Ratio(")), (((.ok a_self) >>= getF 0 0) >>= fmtV), (.ok (.str ", ")), (((.ok a_self) >>= getF 0 1) >>= fmtV), (.ok (.str ")"))])
def m_Ratio_init (a_top : Val) (a_bottom : Val) : Res (List Val) := (iteR (notB (tst ((consR (.ok a_top) (.ok [])) >>= (a1 m_is_integer)))) .no (iteR (rOr (notB (tst ((consR (.ok a_bottom) (.ok [])) >>= (a1 m_is_integer)))) (tst (op2 seq (.ok a_bottom) (.ok (.int 0))))) .no (((consR (.ok a_top) (consR (.ok a_bottom) (.ok []))) >>= bGcd) >>= fun v1_common => (joinR (S := Val) (fun v2_s => ((op2 ifdiv (.ok a_top) (.ok v2_s)) >>= fun v5_top => ((op2 ifdiv (.ok a_bottom) (.ok v2_s)) >>= fun v6_bottom => (.ok (([] ++ [v5_top]) ++ [v6_bottom]))))) fun v3_j => iteR (tst (op2 ilt (.ok a_bottom) (.ok (.int 0)))) (((.ok v1_common) >>= ineg) >>= fun v4_common => (v3_j v4_common)) (v3_j v1_common)))))
def m_Ratio_neg (a_self : Val) : Res (Val) := (makeM 0 (consR (((.ok a_self) >>= getF 0 0) >>= ineg) (consR ((.ok a_self) >>= getF 0 1) (.ok []))) (.ok []) [0, 1] [.int 1] (i2 m_Ratio_init))
def m_Ratio_size (a_self : Val) : Res (Val) := (makeM 0 (consR ((consR ((.ok a_self) >>= getF 0 0) (.ok [])) >>= bAbs) (consR ((.ok a_self) >>= getF 0 1) (.ok []))) (.ok []) [0, 1] [.int 1] (i2 m_Ratio_init))
def m_Ratio_eq (a_self : Val) (a_other : Val) : Res (Val) := (vAnd ((.ok a_other) >>= isO 1 0) (vAnd (op2 seq ((.ok a_self) >>= getF 0 0) ((.ok a_other) >>= getF 0 0)) (op2 seq ((.ok a_self) >>= getF 0 1) ((.ok a_other) >>= getF 0 1))))
def m_terms (a_number : Val) : Res (Val) := (iteR (tst ((.ok a_number) >>= isO 1 0)) ((consR ((.ok a_number) >>= getF 0 0) (consR ((.ok a_number) >>= getF 0 1) (.ok []))) >>= mkT) (iteR (tst ((consR (.ok a_number) (.ok [])) >>= (a1 m_is_integer))) ((consR (.ok a_number) (consR (.ok (.int 1)) (.ok []))) >>= mkT) .no))
def m_Ratio_add (a_self : Val) (a_other : Val) : Res (Val) := (((consR (.ok a_other) (.ok [])) >>= (a1 m_terms)) >>= fun x => un2 x fun v1_top v2_bottom => (makeM 0 (consR (op2 iadd (op2 imul ((.ok a_self) >>= getF 0 0) (.ok v2_bottom)) (op2 imul (.ok v1_top) ((.ok a_self) >>= getF 0 1))) (consR (op2 imul ((.ok a_self) >>= getF 0 1) (.ok v2_bottom)) (.ok []))) (.ok []) [0, 1] [.int 1] (i2 m_Ratio_init)))
def m_Ratio_radd (a_self : Val) (a_other : Val) : Res (Val) := (((consR (.ok a_other) (.ok [])) >>= (a1 m_terms)) >>= fun x => un2 x fun v1_top v2_bottom => (makeM 0 (consR (op2 iadd (op2 imul (.ok v1_top) ((.ok a_self) >>= getF 0 1)) (op2 imul ((.ok a_self) >>= getF 0 0) (.ok v2_bottom))) (consR (op2 imul (.ok v2_bottom) ((.ok a_self) >>= getF 0 1)) (.ok []))) (.ok []) [0, 1] [.int 1] (i2 m_Ratio_init)))
def m_Ratio_sub (a_self : Val) (a_other : Val) : Res (Val) := (((consR (.ok a_other) (.ok [])) >>= (a1 m_terms)) >>= fun x => un2 x fun v1_top v2_bottom => (makeM 0 (consR (op2 isub (op2 imul ((.ok a_self) >>= getF 0 0) (.ok v2_bottom)) (op2 imul (.ok v1_top) ((.ok a_self) >>= getF 0 1))) (consR (op2 imul ((.ok a_self) >>= getF 0 1) (.ok v2_bottom)) (.ok []))) (.ok []) [0, 1] [.int 1] (i2 m_Ratio_init)))
def m_Ratio_rsub (a_self : Val) (a_other : Val) : Res (Val) := (((consR (.ok a_other) (.ok [])) >>= (a1 m_terms)) >>= fun x => un2 x fun v1_top v2_bottom => (makeM 0 (consR (op2 isub (op2 imul (.ok v1_top) ((.ok a_self) >>= getF 0 1)) (op2 imul ((.ok a_self) >>= getF 0 0) (.ok v2_bottom))) (consR (op2 imul (.ok v2_bottom) ((.ok a_self) >>= getF 0 1)) (.ok []))) (.ok []) [0, 1] [.int 1] (i2 m_Ratio_init)))
def m_Ratio_mul (a_self : Val) (a_other : Val) : Res (Val) := (((consR (.ok a_other) (.ok [])) >>= (a1 m_terms)) >>= fun x => un2 x fun v1_top v2_bottom => (makeM 0 (consR (op2 imul ((.ok a_self) >>= getF 0 0) (.ok v1_top)) (consR (op2 imul ((.ok a_self) >>= getF 0 1) (.ok v2_bottom)) (.ok []))) (.ok []) [0, 1] [.int 1] (i2 m_Ratio_init)))
def m_Ratio_rmul (a_self : Val) (a_other : Val) : Res (Val) := (((consR (.ok a_other) (.ok [])) >>= (a1 m_terms)) >>= fun x => un2 x fun v1_top v2_bottom => (makeM 0 (consR (op2 imul (.ok v1_top) ((.ok a_self) >>= getF 0 0)) (consR (op2 imul (.ok v2_bottom) ((.ok a_self) >>= getF 0 1)) (.ok []))) (.ok []) [0, 1] [.int 1] (i2 m_Ratio_init)))
def m_Ratio_over (a_self : Val) (a_other : Val) : Res (Val) := (((consR (.ok a_other) (.ok [])) >>= (a1 m_terms)) >>= fun x => un2 x fun v1_top v2_bottom => (iteR (tst (op2 seq (.ok v1_top) (.ok (.int 0)))) .no (makeM 0 (consR (op2 imul ((.ok a_self) >>= getF 0 0) (.ok v2_bottom)) (consR (op2 imul ((.ok a_self) >>= getF 0 1) (.ok v1_top)) (.ok []))) (.ok []) [0, 1] [.int 1] (i2 m_Ratio_init))))
def m_Ratio_is_below (a_self : Val) (a_other : Val) : Res (Val) := (((consR (.ok a_other) (.ok [])) >>= (a1 m_terms)) >>= fun x => un2 x fun v1_top v2_bottom => (op2 ilt (op2 imul ((.ok a_self) >>= getF 0 0) (.ok v2_bottom)) (op2 imul (.ok v1_top) ((.ok a_self) >>= getF 0 1))))
def m_Ratio_is_at_most (a_self : Val) (a_other : Val) : Res (Val) := (((consR (.ok a_other) (.ok [])) >>= (a1 m_terms)) >>= fun x => un2 x fun v1_top v2_bottom => (op2 ile (op2 imul ((.ok a_self) >>= getF 0 0) (.ok v2_bottom)) (op2 imul (.ok v1_top) ((.ok a_self) >>= getF 0 1))))
def m_Ratio_total_l1 (v6_k : Val → Res (Val)) : List Val → Val → Res (Val)
  | [], v4_s => v6_k v4_s
  | v9_x :: v5_xs, v4_s => (fun v7_part => (((consR (.ok v4_s) (consR (op2 vix (.ok v7_part) (.ok (.int 1))) (.ok []))) >>= bLcm) >>= fun v8_common => (m_Ratio_total_l1 v6_k v5_xs v8_common))) v9_x
def m_Ratio_total (a_cls : Val) (a_numbers : Val) : Res (Val) := (iteR (notB (tst ((.ok a_numbers) >>= isLT 1))) .no ((asL (((.ok a_numbers) >>= items) >>= mapR (fun v2_number => ((consR (.ok v2_number) (.ok [])) >>= (a1 m_terms))))) >>= fun v1_parts => ((.ok (.int 1)) >>= fun v3_common => (((.ok v1_parts) >>= items) >>= fun v15_l => m_Ratio_total_l1 (fun v4_s => (onCls 0 a_cls (makeM 0 (consR ((consR (asL (((.ok v1_parts) >>= items) >>= mapR2 (fun v10_top v11_bottom => (op2 imul (.ok v10_top) (op2 ifdiv (.ok v4_s) (.ok v11_bottom)))))) (.ok [])) >>= bSum) (consR (.ok v4_s) (.ok []))) (.ok []) [0, 1] [.int 1] (i2 m_Ratio_init)))) v15_l v3_common))))
def gadd : Val → Val → Res Val := gop 0 iadd (a2 m_Ratio_add) (a2 m_Ratio_radd)
def gsub : Val → Val → Res Val := gop 0 isub (a2 m_Ratio_sub) (a2 m_Ratio_rsub)
def gmul : Val → Val → Res Val := gop 0 imul (a2 m_Ratio_mul) (a2 m_Ratio_rmul)
def gneg : Val → Res Val := gun 0 ineg (a1 m_Ratio_neg)
def geq_ : Val → Val → Res Val := geq 0 (a2 m_Ratio_eq)
def gne_ : Val → Val → Res Val := gne 0 (a2 m_Ratio_eq)
def gstr : List Val → Res Val := bStr 0 (a1 m_Ratio_str)
def grepr : List Val → Res Val := bRepr 0 (a1 m_Ratio_repr)
def m_law_pot (a_script : Val) (a_k : Val) : Res (List Val) := ((op2 iadd (op2 imul (.ok (.int 887)) (.ok a_k)) (.ok (.int 613))) >>= fun v1_cell => (joinR (S := Val) (fun v2_s => (consR ((consR (.ok (.int 0)) (consR (op2 isub (.ok v2_s) (op2 ipow (.ok (.int 10)) (.ok (.int 18)))) (.ok []))) >>= bMax2) (consR (op2 iadd (op2 imod ((consR (op2 iadd (op2 imul (op2 imod ((consR (.ok v2_s) (.ok [])) >>= bInt) (.ok (.int 2147483549))) (op2 iadd (op2 imul (.ok (.int 2)) (.ok a_k)) (.ok (.int 563)))) (.ok (.int 1307))) (.ok [])) >>= bInt) (.ok (.int 2147483543))) (.ok (.int 1))) (.ok [])))) fun v3_j => iteR (tst (op2 ilt (.ok a_k) ((consR (.ok a_script) (.ok [])) >>= bLen))) (((consR (op2 vix (.ok a_script) (.ok a_k)) (.ok [])) >>= bAbs) >>= fun v4_cell => (v3_j v4_cell)) (v3_j v1_cell)))
def m_law_draw (pot : List Val) (a_size : Val) : Res (Val × List Val) := (iteR (tst (op2 igt (ixM pot (.ok (.int 0))) (.ok (.int 0)))) (digitR pot a_size fun v2_digit v1_pot => (retP ((fl fun zs => (.ok v2_digit)) v1_pot))) (fx ((fl fun zs => (op2 imod ((consR (op2 iadd (op2 imul (ixM zs (.ok (.int 1))) (.ok (.int 48271))) (.ok (.int 18617))) (.ok [])) >>= bInt) (.ok (.int 2147483587)))) pot) >>= fun r => (.ok (.int 1)) >>= fun i => putI r.2 i r.1 fun v3_pot => (retP ((fl fun zs => (op2 imod ((consR (op2 ifdiv (op2 imod ((consR (op2 imul (ixM zs (.ok (.int 1))) (ixM zs (.ok (.int 1)))) (.ok [])) >>= bInt) (.ok (.int 2147483549))) (.ok (.int 13))) (.ok [])) >>= bInt) (.ok a_size))) v3_pot))))
def m_law_common_w1 (v5_k : (Val × Val) → Res (Val)) : Nat → (Val × Val) → Res (Val)
  | 0, _ => .no
  | v4_n + 1, v3_s => iteR (tst (op2 igt (.ok v3_s.2) (.ok (.int 0)))) ((.ok v3_s.2) >>= fun v6_near => (op2 imod (.ok v3_s.1) (.ok v3_s.2)) >>= fun v7_far => (m_law_common_w1 v5_k v4_n (v6_near, v7_far))) (v5_k v3_s)
def m_law_common (a_one : Val) (a_other : Val) : Res (Val) := (((consR (.ok a_one) (.ok [])) >>= bAbs) >>= fun v1_near => ((consR (.ok a_other) (.ok [])) >>= bAbs) >>= fun v2_far => (m_law_common_w1 (fun v3_s => (.ok v3_s.1)) (fuel [v1_near, v2_far]) (v1_near, v2_far)))
def m_law_pick (pot : List Val) (a_some : Val) : Res (Val × List Val) := (retP ((fop vix (fl fun zs => (.ok a_some)) (fcall (p1 m_law_draw) (fl fun zs => (consR ((consR (.ok a_some) (.ok [])) >>= bLen) (.ok []))))) pot))
def m_law_top_l1 (v6_k : (List Val × Val) → Res (Val × List Val)) : List Val → (List Val × Val) → Res (Val × List Val)
  | [], v4_s => v6_k v4_s
  | v10_x :: v5_xs, v4_s => (fun v7_turn => (bindF ((fop iadd (fl fun zs => (op2 imul (.ok v4_s.2) (op2 ipow (.ok (.int 10)) (.ok (.int 9))))) (fcall (p1 m_law_draw) (fl fun zs => (consR (op2 ipow (.ok (.int 10)) (.ok (.int 9))) (.ok []))))) v4_s.1) fun v8_found v9_pot => (m_law_top_l1 v6_k v5_xs (v9_pot, v8_found)))) v10_x
def m_law_top (pot : List Val) : Res (Val × List Val) := (bindF ((fcall (p1 m_law_draw) (fl fun zs => (consR (.ok (.int 5)) (.ok [])))) pot) fun v1_way v2_pot => (iteR (tst (op2 ilt (.ok v1_way) (.ok (.int 3)))) (retP ((fop isub (fcall (p1 m_law_draw) (fl fun zs => (consR (.ok (.int 25)) (.ok [])))) (fl fun zs => (.ok (.int 12)))) v2_pot)) ((.ok (.int 0)) >>= fun v3_found => (((consR (iteR (tst (op2 seq (.ok v1_way) (.ok (.int 3)))) (.ok (.int 3)) (.ok (.int 5))) (.ok [])) >>= rng1) >>= fun v15_l => m_law_top_l1 (fun v4_s => (retP ((fif (ftst (fop seq (fcall (p1 m_law_draw) (fl fun zs => (consR (.ok (.int 2)) (.ok [])))) (fl fun zs => (.ok (.int 0))))) (fl fun zs => (.ok v4_s.2)) (fl fun zs => (op2 isub (.ok (.int 0)) (.ok v4_s.2)))) v4_s.1))) v15_l (v2_pot, v3_found)))))
def m_law_whole (pot : List Val) : Res (Val × List Val) := (retP ((fif (ftst (fop seq (fcall (p1 m_law_draw) (fl fun zs => (consR (.ok (.int 2)) (.ok [])))) (fl fun zs => (.ok (.int 0))))) (fop isub (fcall (p1 m_law_draw) (fl fun zs => (consR (.ok (.int 25)) (.ok [])))) (fl fun zs => (.ok (.int 12)))) (fop isub (fcall (p1 m_law_draw) (fl fun zs => (consR (.ok (.int 1999999)) (.ok [])))) (fl fun zs => (.ok (.int 999999))))) pot))
def m_law_is (a_ratio : Val) (a_top_here : Val) (a_bottom : Val) : Res (Val) := (iteR (rOr (notB (tst ((.ok a_ratio) >>= isO 1 0))) (rOr (tst (op2 ilt (propM 0 (a1 m_Ratio_bottom) (.ok a_ratio)) (.ok (.int 1)))) (rOr (tst (op2 sne (op2 imul (propM 0 (a1 m_Ratio_top) (.ok a_ratio)) (.ok a_bottom)) (op2 imul (.ok a_top_here) (propM 0 (a1 m_Ratio_bottom) (.ok a_ratio))))) (tst (op2 sne ((consR (propM 0 (a1 m_Ratio_top) (.ok a_ratio)) (consR (propM 0 (a1 m_Ratio_bottom) (.ok a_ratio)) (.ok []))) >>= (a2 m_law_common)) (.ok (.int 1))))))) (.ok (.bl false)) ((op2 sadd ((consR (propM 0 (a1 m_Ratio_top) (.ok a_ratio)) (.ok [])) >>= gstr) (iteR (tst (op2 sne (propM 0 (a1 m_Ratio_bottom) (.ok a_ratio)) (.ok (.int 1)))) (op2 sadd (.ok (.str "/")) ((consR (propM 0 (a1 m_Ratio_bottom) (.ok a_ratio)) (.ok [])) >>= gstr)) (.ok (.str "")))) >>= fun v1_text => (iteR (rOr (tst (op2 sne ((consR (.ok a_ratio) (.ok [])) >>= gstr) (.ok v1_text))) (tst (op2 sne ((consR (.ok a_ratio) (.ok [])) >>= grepr) (op2 sadd (op2 sadd (op2 sadd (op2 sadd (.ok (.str "Ratio(")) ((consR (propM 0 (a1 m_Ratio_top) (.ok a_ratio)) (.ok [])) >>= gstr)) (.ok (.str ", "))) ((consR (propM 0 (a1 m_Ratio_bottom) (.ok a_ratio)) (.ok [])) >>= gstr)) (.ok (.str ")")))))) (.ok (.bl false)) ((op2 isub ((consR (op2 igt (propM 0 (a1 m_Ratio_top) (.ok a_ratio)) (.ok (.int 0))) (.ok [])) >>= bInt) ((consR (op2 ilt (propM 0 (a1 m_Ratio_top) (.ok a_ratio)) (.ok (.int 0))) (.ok [])) >>= bInt)) >>= fun v2_sign => (vAnd (op2 seq ((consR ((consR (propM 0 (a1 m_Ratio_sign) (.ok a_ratio)) (consR (propM 0 (a1 m_Ratio_is_whole) (.ok a_ratio)) (.ok []))) >>= mkL) (.ok [])) >>= grepr) ((consR ((consR (.ok v2_sign) (consR (op2 seq (propM 0 (a1 m_Ratio_bottom) (.ok a_ratio)) (.ok (.int 1))) (.ok []))) >>= mkL) (.ok [])) >>= grepr)) (op2 geq_ (methM 0 (.ok a_ratio) (.ok []) (.ok []) [0] [] (a1 m_Ratio_size)) (makeM 0 (consR ((consR (propM 0 (a1 m_Ratio_top) (.ok a_ratio)) (.ok [])) >>= bAbs) (consR (propM 0 (a1 m_Ratio_bottom) (.ok a_ratio)) (.ok []))) (.ok []) [0, 1] [.int 1] (i2 m_Ratio_init))))))))
def m_law_pair (pot : List Val) : Res (Val × List Val) := (bindF ((fif (ftst (fop seq (fcall (p1 m_law_draw) (fl fun zs => (consR (.ok (.int 3)) (.ok [])))) (fl fun zs => (.ok (.int 0))))) (fcall (p0 m_law_top) (fl fun zs => (.ok []))) (fop iadd (fl fun zs => (.ok (.int 1))) (fcall (p1 m_law_draw) (fl fun zs => (consR (.ok (.int 12)) (.ok [])))))) pot) fun v1_bottom v2_pot => (retP ((ftup (fcons (fcall (p0 m_law_top) (fl fun zs => (.ok []))) (fl fun zs => (consR (iteR (tst (op2 sne (.ok v1_bottom) (.ok (.int 0)))) (.ok v1_bottom) (.ok (.int 5))) (.ok []))))) v2_pot)))
def m_law_two_right (a_one : Val) (a_other : Val) : Res (Val) := ((makeM 0 (consR (op2 vix (.ok a_one) (.ok (.int 0))) (consR (op2 vix (.ok a_one) (.ok (.int 1))) (.ok []))) (.ok []) [0, 1] [.int 1] (i2 m_Ratio_init)) >>= fun v1_near => (makeM 0 (.ok []) (consR (op2 vix (.ok a_other) (.ok (.int 0))) (consR (op2 vix (.ok a_other) (.ok (.int 1))) (.ok []))) [0, 1] [.int 1] (i2 m_Ratio_init)) >>= fun v2_far => (((consR (.ok a_one) (consR (.ok a_other) (.ok []))) >>= mkT) >>= fun x => un2 x fun y z => un2 y fun v3_a v4_b => un2 z fun v5_c v6_d => (iteR (rOr (notB (tst ((consR (.ok v1_near) (consR (.ok v3_a) (consR (.ok v4_b) (.ok [])))) >>= (a3 m_law_is)))) (rOr (notB (tst ((consR (op2 gadd (.ok v1_near) (.ok v2_far)) (consR (op2 iadd (op2 imul (.ok v3_a) (.ok v6_d)) (op2 imul (.ok v5_c) (.ok v4_b))) (consR (op2 imul (.ok v4_b) (.ok v6_d)) (.ok [])))) >>= (a3 m_law_is)))) (notB (tst ((consR (op2 gsub (.ok v1_near) (.ok v2_far)) (consR (op2 isub (op2 imul (.ok v3_a) (.ok v6_d)) (op2 imul (.ok v5_c) (.ok v4_b))) (consR (op2 imul (.ok v4_b) (.ok v6_d)) (.ok [])))) >>= (a3 m_law_is)))))) (.ok (.bl false)) (iteR (rOr (notB (tst ((consR (op2 gmul (.ok v1_near) (.ok v2_far)) (consR (op2 imul (.ok v3_a) (.ok v5_c)) (consR (op2 imul (.ok v4_b) (.ok v6_d)) (.ok [])))) >>= (a3 m_law_is)))) (notB (tst ((consR ((.ok v1_near) >>= gneg) (consR (op2 isub (.ok (.int 0)) (.ok v3_a)) (consR (.ok v4_b) (.ok [])))) >>= (a3 m_law_is))))) (.ok (.bl false)) (iteR (rAnd (tst (op2 sne (.ok v5_c) (.ok (.int 0)))) (notB (tst ((consR (methM 0 (.ok v1_near) (.ok []) (consR (.ok v2_far) (.ok [])) [0, 1] [] (a2 m_Ratio_over)) (consR (op2 imul (.ok v3_a) (.ok v6_d)) (consR (op2 imul (.ok v4_b) (.ok v5_c)) (.ok [])))) >>= (a3 m_law_is))))) (.ok (.bl false)) ((op2 imul (op2 imul (op2 isub (op2 imul (.ok v3_a) (.ok v6_d)) (op2 imul (.ok v5_c) (.ok v4_b))) (.ok v4_b)) (.ok v6_d)) >>= fun v7_below => (((consR (methM 0 (.ok v1_near) (consR (.ok v2_far) (.ok [])) (.ok []) [0, 1] [] (a2 m_Ratio_is_below)) (consR (methM 0 (.ok v1_near) (consR (.ok v2_far) (.ok [])) (.ok []) [0, 1] [] (a2 m_Ratio_is_at_most)) (consR (methM 0 (.ok v2_far) (.ok []) (consR (.ok v1_near) (.ok [])) [0, 1] [] (a2 m_Ratio_is_below)) (consR (op2 geq_ (.ok v1_near) (.ok v2_far)) (consR (op2 gne_ (.ok v1_near) (.ok v2_far)) (.ok [])))))) >>= mkL) >>= fun v8_told => (op2 seq ((consR (.ok v8_told) (.ok [])) >>= grepr) ((consR ((consR (op2 ilt (.ok v7_below) (.ok (.int 0))) (consR (op2 ile (.ok v7_below) (.ok (.int 0))) (consR (op2 igt (.ok v7_below) (.ok (.int 0))) (consR (op2 seq (.ok v7_below) (.ok (.int 0))) (consR (op2 sne (.ok v7_below) (.ok (.int 0))) (.ok [])))))) >>= mkL) (.ok [])) >>= grepr)))))))))
def m_law_whole_right (a_one : Val) (a_whole_here : Val) : Res (Val) := (((consR (makeM 0 (consR (op2 vix (.ok a_one) (.ok (.int 0))) (consR (op2 vix (.ok a_one) (.ok (.int 1))) (.ok []))) (.ok []) [0, 1] [.int 1] (i2 m_Ratio_init)) (consR (.ok a_one) (.ok []))) >>= mkT) >>= fun x => un2 x fun v1_near y => un2 y fun v2_a v3_b => (iteR (rOr (notB (tst ((consR (op2 gadd (.ok v1_near) (.ok a_whole_here)) (consR (op2 iadd (.ok v2_a) (op2 imul (.ok a_whole_here) (.ok v3_b))) (consR (.ok v3_b) (.ok [])))) >>= (a3 m_law_is)))) (rOr (notB (tst ((consR (op2 gadd (.ok a_whole_here) (.ok v1_near)) (consR (op2 iadd (.ok v2_a) (op2 imul (.ok a_whole_here) (.ok v3_b))) (consR (.ok v3_b) (.ok [])))) >>= (a3 m_law_is)))) (notB (tst ((consR (op2 gsub (.ok a_whole_here) (.ok v1_near)) (consR (op2 isub (op2 imul (.ok a_whole_here) (.ok v3_b)) (.ok v2_a)) (consR (.ok v3_b) (.ok [])))) >>= (a3 m_law_is)))))) (.ok (.bl false)) (iteR (rOr (notB (tst ((consR (op2 gsub (.ok v1_near) (.ok a_whole_here)) (consR (op2 isub (.ok v2_a) (op2 imul (.ok a_whole_here) (.ok v3_b))) (consR (.ok v3_b) (.ok [])))) >>= (a3 m_law_is)))) (rOr (notB (tst ((consR (op2 gmul (.ok a_whole_here) (.ok v1_near)) (consR (op2 imul (.ok a_whole_here) (.ok v2_a)) (consR (.ok v3_b) (.ok [])))) >>= (a3 m_law_is)))) (notB (tst ((consR (op2 gmul (.ok v1_near) (.ok a_whole_here)) (consR (op2 imul (.ok a_whole_here) (.ok v2_a)) (consR (.ok v3_b) (.ok [])))) >>= (a3 m_law_is)))))) (.ok (.bl false)) (iteR (rAnd (tst (op2 sne (.ok a_whole_here) (.ok (.int 0)))) (notB (tst ((consR (methM 0 (.ok v1_near) (consR (.ok a_whole_here) (.ok [])) (.ok []) [0, 1] [] (a2 m_Ratio_over)) (consR (.ok v2_a) (consR (op2 imul (.ok v3_b) (.ok a_whole_here)) (.ok [])))) >>= (a3 m_law_is))))) (.ok (.bl false)) (iteR (rOr (notB (tst ((consR (makeM 0 (consR (.ok a_whole_here) (.ok [])) (.ok []) [0, 1] [.int 1] (i2 m_Ratio_init)) (consR (.ok a_whole_here) (consR (.ok (.int 1)) (.ok [])))) >>= (a3 m_law_is)))) (tst (op2 vNotB (op2 geq_ (.ok v1_near) (.ok a_whole_here)) (.ok (.bl false))))) (.ok (.bl false)) ((op2 imul (op2 isub (.ok v2_a) (op2 imul (.ok a_whole_here) (.ok v3_b))) (.ok v3_b)) >>= fun v4_below => (op2 seq ((consR ((consR (methM 0 (.ok v1_near) (consR (.ok a_whole_here) (.ok [])) (.ok []) [0, 1] [] (a2 m_Ratio_is_below)) (consR (methM 0 (.ok v1_near) (consR (.ok a_whole_here) (.ok [])) (.ok []) [0, 1] [] (a2 m_Ratio_is_at_most)) (.ok []))) >>= mkL) (.ok [])) >>= grepr) ((consR ((consR (op2 ilt (.ok v4_below) (.ok (.int 0))) (consR (op2 ile (.ok v4_below) (.ok (.int 0))) (.ok []))) >>= mkL) (.ok [])) >>= grepr))))))))
def m_law_total_right_l1 (v5_pairs : Val) (v7_k : (List Val × Val × Val × List Val) → Res (Val × List Val)) : List Val → (List Val × Val × Val × List Val) → Res (Val × List Val)
  | [], v4_s => v7_k v4_s
  | v23_x :: v6_xs, v4_s => (fun v8_turn => (joinR (S := List Val × Val × Val × List Val) (fun v10_s => (m_law_total_right_l1 v5_pairs v7_k v6_xs (v10_s.1, v10_s.2.1, v10_s.2.2.1, v10_s.2.2.2))) fun v11_j => iteF ((ftst (fop seq (fcall (p1 m_law_draw) (fl fun zs => (consR (.ok (.int 3)) (.ok [])))) (fl fun zs => (.ok (.int 0))))) v4_s.1) (fun v9_pot => (bindF ((fcall (p0 m_law_whole) (fl fun zs => (.ok []))) v9_pot) fun v12_whole_here v13_pot => ((.ok v12_whole_here) >>= fun v16_x => appR v4_s.2.2.2 v16_x fun v14_told => ((op2 iadd (.ok v4_s.2.1) (op2 imul (.ok v12_whole_here) (.ok v4_s.2.2.1))) >>= fun v15_top_here => (v11_j (v13_pot, v15_top_here, v4_s.2.2.1, v14_told)))))) (fun v9_pot => (bindF ((fcall (p1 m_law_pick) (fl fun zs => (consR (.ok v5_pairs) (.ok [])))) v9_pot) fun v17_one v18_pot => ((makeM 0 (consR (op2 vix (.ok v17_one) (.ok (.int 0))) (consR (op2 vix (.ok v17_one) (.ok (.int 1))) (.ok []))) (.ok []) [0, 1] [.int 1] (i2 m_Ratio_init)) >>= fun v22_x => appR v4_s.2.2.2 v22_x fun v19_told => ((op2 iadd (op2 imul (.ok v4_s.2.1) (op2 vix (.ok v17_one) (.ok (.int 1)))) (op2 imul (op2 vix (.ok v17_one) (.ok (.int 0))) (.ok v4_s.2.2.1))) >>= fun v20_top_here => (op2 imul (.ok v4_s.2.2.1) (op2 vix (.ok v17_one) (.ok (.int 1)))) >>= fun v21_bottom => (v11_j (v18_pot, v20_top_here, v21_bottom, v19_told)))))))) v23_x
def m_law_total_right (pot : List Val) (a_pairs : Val) : Res (Val × List Val) := ((.ok (.int 0)) >>= fun v1_top_here => (.ok (.int 1)) >>= fun v2_bottom => (bindF ((frng1 (fcons (fcall (p1 m_law_draw) (fl fun zs => (consR (.ok (.int 5)) (.ok [])))) (fl fun zs => (.ok [])))) pot) fun v40_l v3_pot => m_law_total_right_l1 a_pairs (fun v4_s => (retP ((fl fun zs => (vAnd ((consR (cmM 0 (consR (.ok (.lst v4_s.2.2.2)) (.ok [])) (.ok []) [0, 1] [] (a2 m_Ratio_total)) (consR (.ok v4_s.2.1) (consR (.ok v4_s.2.2.1) (.ok [])))) >>= (a3 m_law_is)) ((consR (cmM 0 (.ok []) (consR ((consR (.ok (.lst v4_s.2.2.2)) (.ok [])) >>= bTuple) (.ok [])) [0, 1] [] (a2 m_Ratio_total)) (consR (.ok v4_s.2.1) (consR (.ok v4_s.2.2.1) (.ok [])))) >>= (a3 m_law_is)))) v4_s.1))) v40_l (v3_pot, v1_top_here, v2_bottom, [])))
def m_law_l1 (v9_pairs : Val) (v10_whole_here : Val) (v12_k : Unit → Res (Val)) : List Val → Unit → Res (Val)
  | [], v8_s => v12_k v8_s
  | v15_x :: v11_xs, v8_s => (fun v13_one => (iteR (rOr (notB (tst ((consR (asL (((.ok v9_pairs) >>= items) >>= mapR (fun v14_other => ((consR (.ok v13_one) (consR (.ok v14_other) (.ok []))) >>= (a2 m_law_two_right))))) (.ok [])) >>= bAll))) (notB (tst ((consR (.ok v13_one) (consR (.ok v10_whole_here) (.ok []))) >>= (a2 m_law_whole_right))))) (.ok (.bl false)) (m_law_l1 v9_pairs v10_whole_here v12_k v11_xs ()))) v15_x
def m_law (a_script : Val) : Res (Val) := ((consR (.ok a_script) (consR (.ok (.int 0)) (.ok []))) >>= fun xs => nx ((n2 m_law_pot) xs) >>= fun v1_pot_here => (bindF ((fcons (fcall (p0 m_law_pair) (fl fun zs => (.ok []))) (fcons (fcall (p0 m_law_pair) (fl fun zs => (.ok []))) (fl fun zs => (consR ((consR (.ok (.int 0)) (consR (.ok (.int 3)) (.ok []))) >>= mkT) (.ok []))))) v1_pot_here) fun v2_pairs v3_pot => limR v2_pairs (((consR (op2 imul (op2 vix (ixM v2_pairs (.ok (.int 0))) (.ok (.int 0))) (.ok (.int 6))) (consR (op2 imul (op2 vix (ixM v2_pairs (.ok (.int 0))) (.ok (.int 1))) (.ok (.int 6))) (.ok []))) >>= mkT) >>= fun v21_x => appR v2_pairs v21_x fun v4_pairs => (((consR (op2 isub (.ok (.int 0)) (op2 vix (ixM v4_pairs (.ok (.int 1))) (.ok (.int 0)))) (consR (op2 isub (.ok (.int 0)) (op2 vix (ixM v4_pairs (.ok (.int 1))) (.ok (.int 1)))) (.ok []))) >>= mkT) >>= fun v20_x => appR v4_pairs v20_x fun v5_pairs => (bindF ((fcall (p0 m_law_whole) (fl fun zs => (.ok []))) v3_pot) fun v6_whole_here v7_pot => (((sliceM (.ok (.lst v5_pairs)) (.ok none) (oInt (.ok (.int 2)))) >>= items) >>= fun v19_l => m_law_l1 (.lst v5_pairs) v6_whole_here (fun v8_s => (retF ((fand (fl fun zs => ((consR (op2 vix (.ok (.lst v5_pairs)) (.ok (.int 2))) (consR (.ok v6_whole_here) (.ok []))) >>= (a2 m_law_whole_right))) (fand (fl fun zs => ((consR (op2 vix (.ok (.lst v5_pairs)) (.ok (.int 0))) (consR (.ok (.int 0)) (.ok []))) >>= (a2 m_law_whole_right))) (fcall (p1 m_law_total_right) (fl fun zs => (consR (.ok (.lst v5_pairs)) (.ok [])))))) v7_pot))) v19_l ()))))))
end Mir
namespace Mir
open PySem PySem.Spec PyProof.Rows L2
def tp (i : Nat) : Stmt := PySem.Challenge.pw_surerwalks_k11_whole_numbers_reckoned.main.body.getD i (.Pass ⟨0, 0, 0, 0⟩)
abbrev s_is_integer : Stmt := tp 2
abbrev s_Ratio_init : Stmt := inClass (tp 8) 0
abbrev s_Ratio_top : Stmt := inClass (tp 8) 1
abbrev s_Ratio_bottom : Stmt := inClass (tp 8) 2
abbrev s_Ratio_sign : Stmt := inClass (tp 8) 3
abbrev s_Ratio_is_whole : Stmt := inClass (tp 8) 4
abbrev s_Ratio_add : Stmt := inClass (tp 8) 5
abbrev s_Ratio_radd : Stmt := inClass (tp 8) 6
abbrev s_Ratio_sub : Stmt := inClass (tp 8) 7
abbrev s_Ratio_rsub : Stmt := inClass (tp 8) 8
abbrev s_Ratio_mul : Stmt := inClass (tp 8) 9
abbrev s_Ratio_rmul : Stmt := inClass (tp 8) 10
abbrev s_Ratio_neg : Stmt := inClass (tp 8) 11
abbrev s_Ratio_over : Stmt := inClass (tp 8) 12
abbrev s_Ratio_size : Stmt := inClass (tp 8) 13
abbrev s_Ratio_is_below : Stmt := inClass (tp 8) 14
abbrev s_Ratio_is_at_most : Stmt := inClass (tp 8) 15
abbrev s_Ratio_eq : Stmt := inClass (tp 8) 16
abbrev s_Ratio_str : Stmt := inClass (tp 8) 17
abbrev s_Ratio_repr : Stmt := inClass (tp 8) 18
abbrev s_Ratio_total : Stmt := inClass (tp 8) 19
abbrev s_terms : Stmt := tp 9
abbrev s_law_pot : Stmt := tp 11
abbrev s_law_draw : Stmt := tp 12
abbrev s_law_pick : Stmt := tp 13
abbrev s_law_top : Stmt := tp 14
abbrev s_law_whole : Stmt := tp 15
abbrev s_law_pair : Stmt := tp 16
abbrev s_law_common : Stmt := tp 17
abbrev s_law_is : Stmt := tp 18
abbrev s_law_two_right : Stmt := tp 19
abbrev s_law_whole_right : Stmt := tp 20
abbrev s_law_total_right : Stmt := tp 21
abbrev s_law : Stmt := tp 22
structure Ads where
  c_Ratio : Addr
  f_is_integer : Addr
  d_is_integer : FuncData
  f_Ratio_init : Addr
  d_Ratio_init : FuncData
  f_Ratio_top : Addr
  d_Ratio_top : FuncData
  p_Ratio_top : Addr
  f_Ratio_bottom : Addr
  d_Ratio_bottom : FuncData
  p_Ratio_bottom : Addr
  f_Ratio_sign : Addr
  d_Ratio_sign : FuncData
  p_Ratio_sign : Addr
  f_Ratio_is_whole : Addr
  d_Ratio_is_whole : FuncData
  p_Ratio_is_whole : Addr
  f_Ratio_add : Addr
  d_Ratio_add : FuncData
  f_Ratio_radd : Addr
  d_Ratio_radd : FuncData
  f_Ratio_sub : Addr
  d_Ratio_sub : FuncData
  f_Ratio_rsub : Addr
  d_Ratio_rsub : FuncData
  f_Ratio_mul : Addr
  d_Ratio_mul : FuncData
  f_Ratio_rmul : Addr
  d_Ratio_rmul : FuncData
  f_Ratio_neg : Addr
  d_Ratio_neg : FuncData
  f_Ratio_over : Addr
  d_Ratio_over : FuncData
  f_Ratio_size : Addr
  d_Ratio_size : FuncData
  f_Ratio_is_below : Addr
  d_Ratio_is_below : FuncData
  f_Ratio_is_at_most : Addr
  d_Ratio_is_at_most : FuncData
  f_Ratio_eq : Addr
  d_Ratio_eq : FuncData
  f_Ratio_str : Addr
  d_Ratio_str : FuncData
  f_Ratio_repr : Addr
  d_Ratio_repr : FuncData
  f_Ratio_total : Addr
  d_Ratio_total : FuncData
  p_Ratio_total : Addr
  f_terms : Addr
  d_terms : FuncData
  f_law_pot : Addr
  d_law_pot : FuncData
  f_law_draw : Addr
  d_law_draw : FuncData
  f_law_pick : Addr
  d_law_pick : FuncData
  f_law_top : Addr
  d_law_top : FuncData
  f_law_whole : Addr
  d_law_whole : FuncData
  f_law_pair : Addr
  d_law_pair : FuncData
  f_law_common : Addr
  d_law_common : FuncData
  f_law_is : Addr
  d_law_is : FuncData
  f_law_two_right : Addr
  d_law_two_right : FuncData
  f_law_whole_right : Addr
  d_law_whole_right : FuncData
  f_law_total_right : Addr
  d_law_total_right : FuncData
  f_law : Addr
  d_law : FuncData
abbrev gl (K : PySem.W.Frag) (A : Ads) : Glo := ⟨K, fun k => A.c_Ratio, fun k => ["_top", "_bottom"], 1⟩
theorem nd_Ratio : (["_top", "_bottom"] : List Str).Nodup := by decide +kernel
theorem nf_Ratio_over : ("over" : Str) ∉ (["_top", "_bottom"] : List Str) := by decide +kernel
theorem nf_Ratio_size : ("size" : Str) ∉ (["_top", "_bottom"] : List Str) := by decide +kernel
theorem nf_Ratio_is_below : ("is_below" : Str) ∉ (["_top", "_bottom"] : List Str) := by decide +kernel
theorem nf_Ratio_is_at_most : ("is_at_most" : Str) ∉ (["_top", "_bottom"] : List Str) := by decide +kernel
structure Txt (K : PySem.W.Frag) (mg : Str → Option Value) (A : Ads) : Prop where
  kinds : Kinds (gl K A)
  cl_Ratio : Cls K A.c_Ratio
  mk_Ratio : Mk K A.c_Ratio A.f_Ratio_init
  g_Ratio : mg "Ratio" = some (.ref A.c_Ratio)
  n_Ratio__top : NoAttr K A.c_Ratio "_top"
  n_Ratio__bottom : NoAttr K A.c_Ratio "_bottom"
  P_Ratio_top : PropOf K A.c_Ratio "top" A.p_Ratio_top A.f_Ratio_top
  P_Ratio_bottom : PropOf K A.c_Ratio "bottom" A.p_Ratio_bottom A.f_Ratio_bottom
  P_Ratio_sign : PropOf K A.c_Ratio "sign" A.p_Ratio_sign A.f_Ratio_sign
  P_Ratio_is_whole : PropOf K A.c_Ratio "is_whole" A.p_Ratio_is_whole A.f_Ratio_is_whole
  r_Ratio : ClX.CRead K A.c_Ratio (.type "type")
  c_Ratio_total : ClX.CMet K A.c_Ratio (.type "type") "total" A.p_Ratio_total A.f_Ratio_total
  M_Ratio_over : Meth K A.c_Ratio "over" A.f_Ratio_over
  M_Ratio_size : Meth K A.c_Ratio "size" A.f_Ratio_size
  M_Ratio_is_below : Meth K A.c_Ratio "is_below" A.f_Ratio_is_below
  M_Ratio_is_at_most : Meth K A.c_Ratio "is_at_most" A.f_Ratio_is_at_most
  O_add : OwnOp K A.c_Ratio "__add__" A.f_Ratio_add
  OR_add : OwnOp K A.c_Ratio "__radd__" A.f_Ratio_radd
  OI_add : OwnInt K A.c_Ratio "__add__" "__radd__"
  O_sub : OwnOp K A.c_Ratio "__sub__" A.f_Ratio_sub
  OR_sub : OwnOp K A.c_Ratio "__rsub__" A.f_Ratio_rsub
  OI_sub : OwnInt K A.c_Ratio "__sub__" "__rsub__"
  O_mul : OwnOp K A.c_Ratio "__mul__" A.f_Ratio_mul
  OR_mul : OwnOp K A.c_Ratio "__rmul__" A.f_Ratio_rmul
  OI_mul : OwnInt K A.c_Ratio "__mul__" "__rmul__"
  neg_at : PySem.W.findIn K (.ref A.c_Ratio) "__neg__" = some (some (.ref A.f_Ratio_neg))
  neg_fn : PySem.W.isFn K (.ref A.f_Ratio_neg) = true
  eq_at : PySem.W.findIn K (.ref A.c_Ratio) "__eq__" = some (some (.ref A.f_Ratio_eq))
  eq_fn : PySem.W.isFn K (.ref A.f_Ratio_eq) = true
  str_at : PySem.W.findIn K (.ref A.c_Ratio) "__str__" = some (some (.ref A.f_Ratio_str))
  str_fn : PySem.W.isFn K (.ref A.f_Ratio_str) = true
  repr_at : PySem.W.findIn K (.ref A.c_Ratio) "__repr__" = some (some (.ref A.f_Ratio_repr))
  repr_fn : PySem.W.isFn K (.ref A.f_Ratio_repr) = true
  eq_sub : PySem.W.subIn K (.type "int") (.ref A.c_Ratio) = some false
  ne_at : PySem.W.findIn K (.ref A.c_Ratio) "__ne__" = some (some (.builtin "object.__ne__"))
  ne_so : PySem.W.subIn K (.ref A.c_Ratio) (.type "object") = some true
  F_is_integer : FnD K "is_integer" "is_integer" s_is_integer [] A.f_is_integer A.d_is_integer
  b_is_integer : Binds K A.d_is_integer ["value"] []
  g_is_integer : mg "is_integer" = some (.ref A.f_is_integer)
  k_is_integer : PySem.W.keepIn K (.ref A.f_is_integer) = true
  F_Ratio_init : FnD K "__init__" "Ratio.__init__" s_Ratio_init [.int 1] A.f_Ratio_init A.d_Ratio_init
  F_Ratio_top : FnD K "top" "Ratio.top" s_Ratio_top [] A.f_Ratio_top A.d_Ratio_top
  b_Ratio_top : Binds K A.d_Ratio_top ["self"] []
  F_Ratio_bottom : FnD K "bottom" "Ratio.bottom" s_Ratio_bottom [] A.f_Ratio_bottom A.d_Ratio_bottom
  b_Ratio_bottom : Binds K A.d_Ratio_bottom ["self"] []
  F_Ratio_sign : FnD K "sign" "Ratio.sign" s_Ratio_sign [] A.f_Ratio_sign A.d_Ratio_sign
  b_Ratio_sign : Binds K A.d_Ratio_sign ["self"] []
  F_Ratio_is_whole : FnD K "is_whole" "Ratio.is_whole" s_Ratio_is_whole [] A.f_Ratio_is_whole A.d_Ratio_is_whole
  b_Ratio_is_whole : Binds K A.d_Ratio_is_whole ["self"] []
  F_Ratio_add : FnD K "__add__" "Ratio.__add__" s_Ratio_add [] A.f_Ratio_add A.d_Ratio_add
  b_Ratio_add : Binds K A.d_Ratio_add ["self", "other"] []
  F_Ratio_radd : FnD K "__radd__" "Ratio.__radd__" s_Ratio_radd [] A.f_Ratio_radd A.d_Ratio_radd
  b_Ratio_radd : Binds K A.d_Ratio_radd ["self", "other"] []
  F_Ratio_sub : FnD K "__sub__" "Ratio.__sub__" s_Ratio_sub [] A.f_Ratio_sub A.d_Ratio_sub
  b_Ratio_sub : Binds K A.d_Ratio_sub ["self", "other"] []
  F_Ratio_rsub : FnD K "__rsub__" "Ratio.__rsub__" s_Ratio_rsub [] A.f_Ratio_rsub A.d_Ratio_rsub
  b_Ratio_rsub : Binds K A.d_Ratio_rsub ["self", "other"] []
  F_Ratio_mul : FnD K "__mul__" "Ratio.__mul__" s_Ratio_mul [] A.f_Ratio_mul A.d_Ratio_mul
  b_Ratio_mul : Binds K A.d_Ratio_mul ["self", "other"] []
  F_Ratio_rmul : FnD K "__rmul__" "Ratio.__rmul__" s_Ratio_rmul [] A.f_Ratio_rmul A.d_Ratio_rmul
  b_Ratio_rmul : Binds K A.d_Ratio_rmul ["self", "other"] []
  F_Ratio_neg : FnD K "__neg__" "Ratio.__neg__" s_Ratio_neg [] A.f_Ratio_neg A.d_Ratio_neg
  b_Ratio_neg : Binds K A.d_Ratio_neg ["self"] []
  F_Ratio_over : FnD K "over" "Ratio.over" s_Ratio_over [] A.f_Ratio_over A.d_Ratio_over
  b_Ratio_over : Binds K A.d_Ratio_over ["self", "other"] []
  F_Ratio_size : FnD K "size" "Ratio.size" s_Ratio_size [] A.f_Ratio_size A.d_Ratio_size
  b_Ratio_size : Binds K A.d_Ratio_size ["self"] []
  F_Ratio_is_below : FnD K "is_below" "Ratio.is_below" s_Ratio_is_below [] A.f_Ratio_is_below A.d_Ratio_is_below
  b_Ratio_is_below : Binds K A.d_Ratio_is_below ["self", "other"] []
  F_Ratio_is_at_most : FnD K "is_at_most" "Ratio.is_at_most" s_Ratio_is_at_most [] A.f_Ratio_is_at_most A.d_Ratio_is_at_most
  b_Ratio_is_at_most : Binds K A.d_Ratio_is_at_most ["self", "other"] []
  F_Ratio_eq : FnD K "__eq__" "Ratio.__eq__" s_Ratio_eq [] A.f_Ratio_eq A.d_Ratio_eq
  b_Ratio_eq : Binds K A.d_Ratio_eq ["self", "other"] []
  F_Ratio_str : FnD K "__str__" "Ratio.__str__" s_Ratio_str [] A.f_Ratio_str A.d_Ratio_str
  b_Ratio_str : Binds K A.d_Ratio_str ["self"] []
  F_Ratio_repr : FnD K "__repr__" "Ratio.__repr__" s_Ratio_repr [] A.f_Ratio_repr A.d_Ratio_repr
  b_Ratio_repr : Binds K A.d_Ratio_repr ["self"] []
  F_Ratio_total : FnD K "total" "Ratio.total" s_Ratio_total [] A.f_Ratio_total A.d_Ratio_total
  b_Ratio_total : Binds K A.d_Ratio_total ["cls", "numbers"] []
  F_terms : FnD K "_terms" "_terms" s_terms [] A.f_terms A.d_terms
  b_terms : Binds K A.d_terms ["number"] []
  g_terms : mg "_terms" = some (.ref A.f_terms)
  k_terms : PySem.W.keepIn K (.ref A.f_terms) = true
  F_law_pot : FnD K "_law_pot" "_law_pot" s_law_pot [] A.f_law_pot A.d_law_pot
  b_law_pot : Binds K A.d_law_pot ["_law_script", "_law_k"] []
  g_law_pot : mg "_law_pot" = some (.ref A.f_law_pot)
  k_law_pot : PySem.W.keepIn K (.ref A.f_law_pot) = true
  F_law_draw : FnD K "_law_draw" "_law_draw" s_law_draw [] A.f_law_draw A.d_law_draw
  b_law_draw : Binds K A.d_law_draw ["_law_pot_here", "_law_size"] []
  g_law_draw : mg "_law_draw" = some (.ref A.f_law_draw)
  k_law_draw : PySem.W.keepIn K (.ref A.f_law_draw) = true
  F_law_pick : FnD K "_law_pick" "_law_pick" s_law_pick [] A.f_law_pick A.d_law_pick
  b_law_pick : Binds K A.d_law_pick ["_law_pot_here", "_law_some"] []
  g_law_pick : mg "_law_pick" = some (.ref A.f_law_pick)
  k_law_pick : PySem.W.keepIn K (.ref A.f_law_pick) = true
  F_law_top : FnD K "_law_top" "_law_top" s_law_top [] A.f_law_top A.d_law_top
  b_law_top : Binds K A.d_law_top ["_law_pot_here"] []
  g_law_top : mg "_law_top" = some (.ref A.f_law_top)
  k_law_top : PySem.W.keepIn K (.ref A.f_law_top) = true
  F_law_whole : FnD K "_law_whole" "_law_whole" s_law_whole [] A.f_law_whole A.d_law_whole
  b_law_whole : Binds K A.d_law_whole ["_law_pot_here"] []
  g_law_whole : mg "_law_whole" = some (.ref A.f_law_whole)
  k_law_whole : PySem.W.keepIn K (.ref A.f_law_whole) = true
  F_law_pair : FnD K "_law_pair" "_law_pair" s_law_pair [] A.f_law_pair A.d_law_pair
  b_law_pair : Binds K A.d_law_pair ["_law_pot_here"] []
  g_law_pair : mg "_law_pair" = some (.ref A.f_law_pair)
  k_law_pair : PySem.W.keepIn K (.ref A.f_law_pair) = true
  F_law_common : FnD K "_law_common" "_law_common" s_law_common [] A.f_law_common A.d_law_common
  b_law_common : Binds K A.d_law_common ["_law_one", "_law_other"] []
  g_law_common : mg "_law_common" = some (.ref A.f_law_common)
  k_law_common : PySem.W.keepIn K (.ref A.f_law_common) = true
  F_law_is : FnD K "_law_is" "_law_is" s_law_is [] A.f_law_is A.d_law_is
  b_law_is : Binds K A.d_law_is ["_law_ratio", "_law_top_here", "_law_bottom"] []
  g_law_is : mg "_law_is" = some (.ref A.f_law_is)
  k_law_is : PySem.W.keepIn K (.ref A.f_law_is) = true
  F_law_two_right : FnD K "_law_two_right" "_law_two_right" s_law_two_right [] A.f_law_two_right A.d_law_two_right
  b_law_two_right : Binds K A.d_law_two_right ["_law_one", "_law_other"] []
  g_law_two_right : mg "_law_two_right" = some (.ref A.f_law_two_right)
  k_law_two_right : PySem.W.keepIn K (.ref A.f_law_two_right) = true
  F_law_whole_right : FnD K "_law_whole_right" "_law_whole_right" s_law_whole_right [] A.f_law_whole_right A.d_law_whole_right
  b_law_whole_right : Binds K A.d_law_whole_right ["_law_one", "_law_whole_here"] []
  g_law_whole_right : mg "_law_whole_right" = some (.ref A.f_law_whole_right)
  k_law_whole_right : PySem.W.keepIn K (.ref A.f_law_whole_right) = true
  F_law_total_right : FnD K "_law_total_right" "_law_total_right" s_law_total_right [] A.f_law_total_right A.d_law_total_right
  b_law_total_right : Binds K A.d_law_total_right ["_law_pot_here", "_law_pairs"] []
  g_law_total_right : mg "_law_total_right" = some (.ref A.f_law_total_right)
  k_law_total_right : PySem.W.keepIn K (.ref A.f_law_total_right) = true
  F_law : FnD K "law" "law" s_law [] A.f_law A.d_law
  b_law : Binds K A.d_law ["_law_script"] []
  g_law : mg "law" = some (.ref A.f_law)
  k_law : PySem.W.keepIn K (.ref A.f_law) = true
  g_abs : mg "abs" = none
  g_all : mg "all" = none
  g_bool : mg "bool" = none
  g_divmod : mg "divmod" = none
  g_gcd : mg "gcd" = some (.builtin "math.gcd")
  g_int : mg "int" = none
  g_isinstance : mg "isinstance" = none
  g_lcm : mg "lcm" = some (.builtin "math.lcm")
  g_len : mg "len" = none
  g_list : mg "list" = none
  g_max : mg "max" = none
  g_range : mg "range" = none
  g_repr : mg "repr" = none
  g_str : mg "str" = none
  g_sum : mg "sum" = none
  g_tuple : mg "tuple" = none
theorem bn_Ratio_init_3 {K : PySem.W.Frag} {mg : Str → Option Value} {A : Ads} (T : Txt K mg A) : Bnd K A.d_Ratio_init ["self", "top", "bottom"] 3 [] [0, 1, 2] [.int 1] := bnd_dflt T.F_Ratio_init 3 [] [0, 1, 2] (by simp) fun T kV doc pm an cdv ct us its ws h1 h2 h3 => match us, its, ws, h1, h2, h3 with | [_, _, _], [_], [], _, _, _ => ⟨_, rfl, rfl⟩
theorem bn_Ratio_size_1 {K : PySem.W.Frag} {mg : Str → Option Value} {A : Ads} (T : Txt K mg A) : Bnd K A.d_Ratio_size ["self"] 1 [] [0] [] := bnd_plain T.F_Ratio_size 1 [] [0] fun kV doc pm an cdv ct us ws h1 h2 => match us, ws, h1, h2 with | [_], [], _, _ => rfl
theorem bn_Ratio_init_1_top_bottom {K : PySem.W.Frag} {mg : Str → Option Value} {A : Ads} (T : Txt K mg A) : Bnd K A.d_Ratio_init ["self", "top", "bottom"] 1 ["top", "bottom"] [0, 1, 2] [.int 1] := bnd_dflt T.F_Ratio_init 1 ["top", "bottom"] [0, 1, 2] (by simp) fun T kV doc pm an cdv ct us its ws h1 h2 h3 => match us, its, ws, h1, h2, h3 with | [_], [_], [_, _], _, _, _ => ⟨_, rfl, rfl⟩
theorem bn_Ratio_over_1_other {K : PySem.W.Frag} {mg : Str → Option Value} {A : Ads} (T : Txt K mg A) : Bnd K A.d_Ratio_over ["self", "other"] 1 ["other"] [0, 1] [] := bnd_plain T.F_Ratio_over 1 ["other"] [0, 1] fun kV doc pm an cdv ct us ws h1 h2 => match us, ws, h1, h2 with | [_], [_], _, _ => rfl
theorem bn_Ratio_is_below_2 {K : PySem.W.Frag} {mg : Str → Option Value} {A : Ads} (T : Txt K mg A) : Bnd K A.d_Ratio_is_below ["self", "other"] 2 [] [0, 1] [] := bnd_plain T.F_Ratio_is_below 2 [] [0, 1] fun kV doc pm an cdv ct us ws h1 h2 => match us, ws, h1, h2 with | [_, _], [], _, _ => rfl
theorem bn_Ratio_is_at_most_2 {K : PySem.W.Frag} {mg : Str → Option Value} {A : Ads} (T : Txt K mg A) : Bnd K A.d_Ratio_is_at_most ["self", "other"] 2 [] [0, 1] [] := bnd_plain T.F_Ratio_is_at_most 2 [] [0, 1] fun kV doc pm an cdv ct us ws h1 h2 => match us, ws, h1, h2 with | [_, _], [], _, _ => rfl
theorem bn_Ratio_is_below_1_other {K : PySem.W.Frag} {mg : Str → Option Value} {A : Ads} (T : Txt K mg A) : Bnd K A.d_Ratio_is_below ["self", "other"] 1 ["other"] [0, 1] [] := bnd_plain T.F_Ratio_is_below 1 ["other"] [0, 1] fun kV doc pm an cdv ct us ws h1 h2 => match us, ws, h1, h2 with | [_], [_], _, _ => rfl
theorem bn_Ratio_over_2 {K : PySem.W.Frag} {mg : Str → Option Value} {A : Ads} (T : Txt K mg A) : Bnd K A.d_Ratio_over ["self", "other"] 2 [] [0, 1] [] := bnd_plain T.F_Ratio_over 2 [] [0, 1] fun kV doc pm an cdv ct us ws h1 h2 => match us, ws, h1, h2 with | [_, _], [], _, _ => rfl
theorem bn_Ratio_init_2 {K : PySem.W.Frag} {mg : Str → Option Value} {A : Ads} (T : Txt K mg A) : Bnd K A.d_Ratio_init ["self", "top", "bottom"] 2 [] [0, 1, 2] [.int 1] := bnd_dflt T.F_Ratio_init 2 [] [0, 1, 2] (by simp) fun T kV doc pm an cdv ct us its ws h1 h2 h3 => match us, its, ws, h1, h2, h3 with | [_, _], [_], [], _, _, _ => ⟨_, rfl, rfl⟩
theorem bn_Ratio_total_2 {K : PySem.W.Frag} {mg : Str → Option Value} {A : Ads} (T : Txt K mg A) : Bnd K A.d_Ratio_total ["cls", "numbers"] 2 [] [0, 1] [] := bnd_plain T.F_Ratio_total 2 [] [0, 1] fun kV doc pm an cdv ct us ws h1 h2 => match us, ws, h1, h2 with | [_, _], [], _, _ => rfl
theorem bn_Ratio_total_1_numbers {K : PySem.W.Frag} {mg : Str → Option Value} {A : Ads} (T : Txt K mg A) : Bnd K A.d_Ratio_total ["cls", "numbers"] 1 ["numbers"] [0, 1] [] := bnd_plain T.F_Ratio_total 1 ["numbers"] [0, 1] fun kV doc pm an cdv ct us ws h1 h2 => match us, ws, h1, h2 with | [_], [_], _, _ => rfl
end Mir
namespace Mir
open PySem PySem.Spec PyProof.Rows L2
theorem sc_is_integer : FnScope ["value"] ["value"] (defScope s_is_integer) := ⟨rfl, rfl, rfl, by decide +kernel, rfl, by decide +kernel, by decide +kernel⟩
theorem ok_is_integer {P : Program} {w : World} {K : PySem.W.Frag} {mg : Str → Option Value} {base : Heap} {A : Ads} (T : Txt K mg A) : FnOk P w K mg base (L2.CX P w) 1 A.f_is_integer A.d_is_integer ["value"] (spM (gl K A) 1 (a1 m_is_integer)) := by
  have S := sc_is_integer
  exact fnS2 (k := 0) T.F_is_integer S [.non] rfl fun cdv AA outer s H E B F0 => (all1 fun a_value => ⟨_,
    (s_ret (ex_and (ex_isB (T := "int") T.kinds rfl rfl T.g_isinstance (x_var (i := 0) rfl (.inl rfl) rfl) (pe_bltn rfl T.g_int bt_int rfl)) (ex_one (x_not (ex_isB (T := "bool") T.kinds rfl rfl T.g_isinstance (x_var (i := 0) rfl (.inl rfl) rfl) (pe_bltn rfl T.g_bool bt_bool rfl))))))⟩)
end Mir
namespace Mir
open PySem PySem.Spec PyProof.Rows L2
theorem sc_Ratio_top : FnScope ["self"] ["self"] (defScope s_Ratio_top) := ⟨rfl, rfl, rfl, by decide +kernel, rfl, by decide +kernel, by decide +kernel⟩
theorem ok_Ratio_top {P : Program} {w : World} {K : PySem.W.Frag} {mg : Str → Option Value} {base : Heap} {A : Ads} (T : Txt K mg A) : FnOk P w K mg base (L2.CX P w) 1 A.f_Ratio_top A.d_Ratio_top ["self"] (spM (gl K A) 1 (a1 m_Ratio_top)) := by
  have S := sc_Ratio_top
  exact fnS2 (k := 0) T.F_Ratio_top S [.non] rfl fun cdv AA outer s H E B F0 => (all1 fun a_self => ⟨_,
    (s_ret (ex_fld (k := 0) (j := 0) (x_var (i := 0) rfl (.inl rfl) rfl) T.cl_Ratio T.n_Ratio__top rfl nd_Ratio rfl))⟩)
end Mir
namespace Mir
open PySem PySem.Spec PyProof.Rows L2
theorem sc_Ratio_bottom : FnScope ["self"] ["self"] (defScope s_Ratio_bottom) := ⟨rfl, rfl, rfl, by decide +kernel, rfl, by decide +kernel, by decide +kernel⟩
theorem ok_Ratio_bottom {P : Program} {w : World} {K : PySem.W.Frag} {mg : Str → Option Value} {base : Heap} {A : Ads} (T : Txt K mg A) : FnOk P w K mg base (L2.CX P w) 1 A.f_Ratio_bottom A.d_Ratio_bottom ["self"] (spM (gl K A) 1 (a1 m_Ratio_bottom)) := by
  have S := sc_Ratio_bottom
  exact fnS2 (k := 0) T.F_Ratio_bottom S [.non] rfl fun cdv AA outer s H E B F0 => (all1 fun a_self => ⟨_,
    (s_ret (ex_fld (k := 0) (j := 1) (x_var (i := 0) rfl (.inl rfl) rfl) T.cl_Ratio T.n_Ratio__bottom rfl nd_Ratio rfl))⟩)
end Mir
namespace Mir
open PySem PySem.Spec PyProof.Rows L2
theorem sc_Ratio_sign : FnScope ["self"] ["self"] (defScope s_Ratio_sign) := ⟨rfl, rfl, rfl, by decide +kernel, rfl, by decide +kernel, by decide +kernel⟩
theorem ok_Ratio_sign {P : Program} {w : World} {K : PySem.W.Frag} {mg : Str → Option Value} {base : Heap} {A : Ads} (T : Txt K mg A) : FnOk P w K mg base (L2.CX P w) 1 A.f_Ratio_sign A.d_Ratio_sign ["self"] (spM (gl K A) 1 (a1 m_Ratio_sign)) := by
  have S := sc_Ratio_sign
  exact fnS2 (k := 0) T.F_Ratio_sign S [.non] rfl fun cdv AA outer s H E B F0 => (all1 fun a_self => ⟨_,
    (s_guard (t_cmp op_eq ov_eq (ex_fld (k := 0) (j := 0) (x_var (i := 0) rfl (.inl rfl) rfl) T.cl_Ratio T.n_Ratio__top rfl nd_Ratio rfl) ex_int) (s_ret ex_int) (s_ret (x_if (t_cmp op_gt ov_gt (ex_fld (k := 0) (j := 0) (x_var (i := 0) rfl (.inl rfl) rfl) T.cl_Ratio T.n_Ratio__top rfl nd_Ratio rfl) ex_int) ex_int (x_un un_neg uv_neg ex_int))))⟩)
end Mir
namespace Mir
open PySem PySem.Spec PyProof.Rows L2
theorem sc_Ratio_is_whole : FnScope ["self"] ["self"] (defScope s_Ratio_is_whole) := ⟨rfl, rfl, rfl, by decide +kernel, rfl, by decide +kernel, by decide +kernel⟩
theorem ok_Ratio_is_whole {P : Program} {w : World} {K : PySem.W.Frag} {mg : Str → Option Value} {base : Heap} {A : Ads} (T : Txt K mg A) : FnOk P w K mg base (L2.CX P w) 1 A.f_Ratio_is_whole A.d_Ratio_is_whole ["self"] (spM (gl K A) 1 (a1 m_Ratio_is_whole)) := by
  have S := sc_Ratio_is_whole
  exact fnS2 (k := 0) T.F_Ratio_is_whole S [.non] rfl fun cdv AA outer s H E B F0 => (all1 fun a_self => ⟨_,
    (s_ret (x_cmp op_eq ov_eq (ex_fld (k := 0) (j := 1) (x_var (i := 0) rfl (.inl rfl) rfl) T.cl_Ratio T.n_Ratio__bottom rfl nd_Ratio rfl) ex_int))⟩)
end Mir
namespace Mir
open PySem PySem.Spec PyProof.Rows L2
theorem sc_Ratio_str : FnScope ["self"] ["self"] (defScope s_Ratio_str) := ⟨rfl, rfl, rfl, by decide +kernel, rfl, by decide +kernel, by decide +kernel⟩
theorem ok_Ratio_str {P : Program} {w : World} {K : PySem.W.Frag} {mg : Str → Option Value} {base : Heap} {A : Ads} (T : Txt K mg A) : FnOk P w K mg base (L2.CX P w) 1 A.f_Ratio_str A.d_Ratio_str ["self"] (spM (gl K A) 1 (a1 m_Ratio_str)) := by
  have S := sc_Ratio_str
  exact fnS2 (k := 0) T.F_Ratio_str S [.non] rfl fun cdv AA outer s H E B F0 => (all1 fun a_self => ⟨_,
    (s_guard (t_cmp op_eq ov_eq (ex_fld (k := 0) (j := 1) (x_var (i := 0) rfl (.inl rfl) rfl) T.cl_Ratio T.n_Ratio__bottom rfl nd_Ratio rfl) ex_int) (s_ret (x_ty call_str_int cv_strI rfl T.g_str bt_str (a_cons (ex_fld (k := 0) (j := 0) (x_var (i := 0) rfl (.inl rfl) rfl) T.cl_Ratio T.n_Ratio__top rfl nd_Ratio rfl) ea_nil))) (s_ret (x_joined (EJ.cons (x_fmt (ex_fld (k := 0) (j := 0) (x_var (i := 0) rfl (.inl rfl) rfl) T.cl_Ratio T.n_Ratio__top rfl nd_Ratio rfl)) (EJ.cons ex_str (EJ.cons (x_fmt (ex_fld (k := 0) (j := 1) (x_var (i := 0) rfl (.inl rfl) rfl) T.cl_Ratio T.n_Ratio__bottom rfl nd_Ratio rfl)) EJ.nil))))))⟩)
end Mir
namespace Mir
open PySem PySem.Spec PyProof.Rows L2
theorem sc_Ratio_repr : FnScope ["self"] ["self"] (defScope s_Ratio_repr) := ⟨rfl, rfl, rfl, by decide +kernel, rfl, by decide +kernel, by decide +kernel⟩
theorem ok_Ratio_repr {P : Program} {w : World} {K : PySem.W.Frag} {mg : Str → Option Value} {base : Heap} {A : Ads} (T : Txt K mg A) : FnOk P w K mg base (L2.CX P w) 1 A.f_Ratio_repr A.d_Ratio_repr ["self"] (spM (gl K A) 1 (a1 m_Ratio_repr)) := by
  have S := sc_Ratio_repr
  exact fnS2 (k := 0) T.F_Ratio_repr S [.non] rfl fun cdv AA outer s H E B F0 => (all1 fun a_self => ⟨_,
    (s_ret (x_joined (EJ.cons ex_str (EJ.cons (x_fmt (ex_fld (k := 0) (j := 0) (x_var (i := 0) rfl (.inl rfl) rfl) T.cl_Ratio T.n_Ratio__top rfl nd_Ratio rfl)) (EJ.cons ex_str (EJ.cons (x_fmt (ex_fld (k := 0) (j := 1) (x_var (i := 0) rfl (.inl rfl) rfl) T.cl_Ratio T.n_Ratio__bottom rfl nd_Ratio rfl)) (EJ.cons ex_str EJ.nil)))))))⟩)
end Mir
namespace Mir
open PySem PySem.Spec PyProof.Rows L2
theorem sc_Ratio_init : FnScope ["self", "top", "bottom", "common"] ["self", "top", "bottom"] (defScope s_Ratio_init) := ⟨rfl, rfl, rfl, by decide +kernel, rfl, by decide +kernel, by decide +kernel⟩
theorem ok_Ratio_init {P : Program} {w : World} {K : PySem.W.Frag} {mg : Str → Option Value} {base : Heap} {A : Ads} (T : Txt K mg A) : FnOk P w K mg base (L2.CX P w) 2 A.f_Ratio_init A.d_Ratio_init ["self", "top", "bottom"] (spI (gl K A) 0 2 (i2 m_Ratio_init)) := by
  have S := sc_Ratio_init
  exact fnI2 (n := 2) (k := 1) (c0 := 0) T.F_Ratio_init S rfl [.non, .non] rfl fun cdv AA outer s H E B F0 a => (all2 fun a_top a_bottom => ⟨_,
    (s_guard (t_not (t_val (x_call ⟨ok_is_integer T, (B.room.mono (by decide)), T.g_is_integer, T.k_is_integer, T.b_is_integer⟩ (by exact B.pass) rfl (a_cons (x_var (i := 1) rfl (.inl rfl) rfl) ea_nil) (len_cons len_nil)))) sb_raise (s_guard (EW.et (ew_or (t_not (t_val (x_call ⟨ok_is_integer T, (B.room.mono (by decide)), T.g_is_integer, T.k_is_integer, T.b_is_integer⟩ (by exact B.pass) rfl (a_cons (x_var (i := 2) rfl (.inl rfl) rfl) ea_nil) (len_cons len_nil)))) (ew_one (t_cmp op_eq ov_eq (x_var (i := 2) rfl (.inl rfl) rfl) ex_int) (.inr rfl)))) sb_raise (s_set (i := 3) S.nd rfl (.inl rfl) (x_fun cr_gcd cv_gcd rfl T.g_gcd (a_cons (x_var (i := 1) rfl (.inl rfl) rfl) (a_cons (x_var (i := 2) rfl (.inl rfl) rfl) ea_nil))) (lt_of rfl) (fun v1_common => (s_ifJ2 (S := Val) (fun v2_s => [some (.slf 0 []), some (.val a_top), some (.val a_bottom), some (.val v2_s)]) .non (t_cmp op_lt ov_lt (x_var (i := 2) rfl (.inl rfl) rfl) ex_int) (s_set (i := 3) S.nd rfl (.inl rfl) (x_un un_neg uv_neg (x_var (i := 3) rfl (.inl rfl) rfl)) (lt_of rfl) (fun v4_common => (s_join (S := Val) v4_common (.keep (.keep (.keep (.keep .nil))))))) (s_join (S := Val) v1_common (.keep (.keep (.keep (.keep .nil))))) (fun v2_s => (s_fld (i := 0) (k := 0) (p_var rfl (.inl rfl)) (x_op op_fdivG ov_fdiv (x_var (i := 1) rfl (.inl rfl) rfl) (x_var (i := 3) rfl (.inl rfl) rfl)) rfl rfl nd_Ratio (le_of rfl) T.cl_Ratio T.n_Ratio__top rfl rfl (fun v5_top => (s_fld (i := 0) (k := 0) (p_var rfl (.inl rfl)) (x_op op_fdivG ov_fdiv (x_var (i := 2) rfl (.inl rfl) rfl) (x_var (i := 3) rfl (.inl rfl) rfl)) rfl rfl nd_Ratio (le_of rfl) T.cl_Ratio T.n_Ratio__bottom rfl rfl (fun v6_bottom => (sb_end (Weak.refl _) ⟨_, rfl, rfl, rfl⟩)))))))))))⟩)
end Mir
namespace Mir
open PySem PySem.Spec PyProof.Rows L2
theorem sc_Ratio_neg : FnScope ["self"] ["self"] (defScope s_Ratio_neg) := ⟨rfl, rfl, rfl, by decide +kernel, rfl, by decide +kernel, by decide +kernel⟩
theorem ok_Ratio_neg {P : Program} {w : World} {K : PySem.W.Frag} {mg : Str → Option Value} {base : Heap} {A : Ads} (T : Txt K mg A) : FnOk P w K mg base (L2.CX P w) 4 A.f_Ratio_neg A.d_Ratio_neg ["self"] (spM (gl K A) 1 (a1 m_Ratio_neg)) := by
  have S := sc_Ratio_neg
  exact fnS2 (k := 3) T.F_Ratio_neg S [.non] rfl fun cdv AA outer s H E B F0 => (all1 fun a_self => ⟨_,
    (s_ret (x_makeP (k := 0) (ks := []) (p := [0, 1]) (ds := [.int 1]) (dvs := [.int 1]) T.mk_Ratio ⟨ok_Ratio_init T, (B.room.mono (by decide)), bn_Ratio_init_3 T⟩ (B.room.mono (by decide)) (by exact B.pass) rfl T.g_Ratio (a_cons (x_un un_neg uv_neg (ex_fld (k := 0) (j := 0) (x_var (i := 0) rfl (.inl rfl) rfl) T.cl_Ratio T.n_Ratio__top rfl nd_Ratio rfl)) (a_cons (ex_fld (k := 0) (j := 1) (x_var (i := 0) rfl (.inl rfl) rfl) T.cl_Ratio T.n_Ratio__bottom rfl nd_Ratio rfl) ea_nil)) ek_nil (fun _ => (RepL.cons rfl RepL.nil)) ⟨.inr ⟨_, _, rfl, rfl⟩, rfl, rfl, rfl⟩ (len_cons (len_cons len_nil)) len_nil (pick_len2 rfl)))⟩)
end Mir
namespace Mir
open PySem PySem.Spec PyProof.Rows L2
theorem sc_Ratio_size : FnScope ["self"] ["self"] (defScope s_Ratio_size) := ⟨rfl, rfl, rfl, by decide +kernel, rfl, by decide +kernel, by decide +kernel⟩
theorem ok_Ratio_size {P : Program} {w : World} {K : PySem.W.Frag} {mg : Str → Option Value} {base : Heap} {A : Ads} (T : Txt K mg A) : FnOk P w K mg base (L2.CX P w) 4 A.f_Ratio_size A.d_Ratio_size ["self"] (spM (gl K A) 1 (a1 m_Ratio_size)) := by
  have S := sc_Ratio_size
  exact fnS2 (k := 3) T.F_Ratio_size S [.non] rfl fun cdv AA outer s H E B F0 => (all1 fun a_self => ⟨_,
    (s_ret (x_makeP (k := 0) (ks := []) (p := [0, 1]) (ds := [.int 1]) (dvs := [.int 1]) T.mk_Ratio ⟨ok_Ratio_init T, (B.room.mono (by decide)), bn_Ratio_init_3 T⟩ (B.room.mono (by decide)) (by exact B.pass) rfl T.g_Ratio (a_cons (x_blt call_abs cv_abs rfl T.g_abs bt_abs (a_cons (ex_fld (k := 0) (j := 0) (x_var (i := 0) rfl (.inl rfl) rfl) T.cl_Ratio T.n_Ratio__top rfl nd_Ratio rfl) ea_nil)) (a_cons (ex_fld (k := 0) (j := 1) (x_var (i := 0) rfl (.inl rfl) rfl) T.cl_Ratio T.n_Ratio__bottom rfl nd_Ratio rfl) ea_nil)) ek_nil (fun _ => (RepL.cons rfl RepL.nil)) ⟨.inr ⟨_, _, rfl, rfl⟩, rfl, rfl, rfl⟩ (len_cons (len_cons len_nil)) len_nil (pick_len2 rfl)))⟩)
end Mir
namespace Mir
open PySem PySem.Spec PyProof.Rows L2
theorem sc_Ratio_eq : FnScope ["self", "other"] ["self", "other"] (defScope s_Ratio_eq) := ⟨rfl, rfl, rfl, by decide +kernel, rfl, by decide +kernel, by decide +kernel⟩
theorem ok_Ratio_eq {P : Program} {w : World} {K : PySem.W.Frag} {mg : Str → Option Value} {base : Heap} {A : Ads} (T : Txt K mg A) : FnOk P w K mg base (L2.CX P w) 4 A.f_Ratio_eq A.d_Ratio_eq ["self", "other"] (spM (gl K A) 2 (a2 m_Ratio_eq)) := by
  have S := sc_Ratio_eq
  exact fnS2 (k := 3) T.F_Ratio_eq S [.non, .non] rfl fun cdv AA outer s H E B F0 => (all2 fun a_self a_other => ⟨_,
    (s_ret (ex_and (ex_isO (j := 0) T.kinds rfl rfl T.g_isinstance (x_var (i := 1) rfl (.inl rfl) rfl) (pe_glob rfl T.g_Ratio rfl)) (ex_and (x_cmp op_eq ov_eq (ex_fld (k := 0) (j := 0) (x_var (i := 0) rfl (.inl rfl) rfl) T.cl_Ratio T.n_Ratio__top rfl nd_Ratio rfl) (ex_fld (k := 0) (j := 0) (x_var (i := 1) rfl (.inl rfl) rfl) T.cl_Ratio T.n_Ratio__top rfl nd_Ratio rfl)) (ex_one (x_cmp op_eq ov_eq (ex_fld (k := 0) (j := 1) (x_var (i := 0) rfl (.inl rfl) rfl) T.cl_Ratio T.n_Ratio__bottom rfl nd_Ratio rfl) (ex_fld (k := 0) (j := 1) (x_var (i := 1) rfl (.inl rfl) rfl) T.cl_Ratio T.n_Ratio__bottom rfl nd_Ratio rfl))))))⟩)
end Mir
namespace Mir
open PySem PySem.Spec PyProof.Rows L2
theorem sc_terms : FnScope ["number"] ["number"] (defScope s_terms) := ⟨rfl, rfl, rfl, by decide +kernel, rfl, by decide +kernel, by decide +kernel⟩
theorem ok_terms {P : Program} {w : World} {K : PySem.W.Frag} {mg : Str → Option Value} {base : Heap} {A : Ads} (T : Txt K mg A) : FnOk P w K mg base (L2.CX P w) 4 A.f_terms A.d_terms ["number"] (spM (gl K A) 1 (a1 m_terms)) := by
  have S := sc_terms
  exact fnS2 (k := 3) T.F_terms S [.non] rfl fun cdv AA outer s H E B F0 => (all1 fun a_number => ⟨_,
    (s_guard (t_val (ex_isO (j := 0) T.kinds rfl rfl T.g_isinstance (x_var (i := 0) rfl (.inl rfl) rfl) (pe_glob rfl T.g_Ratio rfl))) (s_ret (x_tup (a_cons (ex_fld (k := 0) (j := 0) (x_var (i := 0) rfl (.inl rfl) rfl) T.cl_Ratio T.n_Ratio__top rfl nd_Ratio rfl) (a_cons (ex_fld (k := 0) (j := 1) (x_var (i := 0) rfl (.inl rfl) rfl) T.cl_Ratio T.n_Ratio__bottom rfl nd_Ratio rfl) ea_nil)))) (s_guard (t_val (x_call ⟨ok_is_integer T, (B.room.mono (by decide)), T.g_is_integer, T.k_is_integer, T.b_is_integer⟩ (by exact B.pass) rfl (a_cons (x_var (i := 0) rfl (.inl rfl) rfl) ea_nil) (len_cons len_nil))) (s_ret (x_tup (a_cons (x_var (i := 0) rfl (.inl rfl) rfl) (a_cons ex_int ea_nil)))) sb_raise))⟩)
end Mir
namespace Mir
open PySem PySem.Spec PyProof.Rows L2
theorem sc_Ratio_add : FnScope ["self", "other", "top", "bottom"] ["self", "other"] (defScope s_Ratio_add) := ⟨rfl, rfl, rfl, by decide +kernel, rfl, by decide +kernel, by decide +kernel⟩
theorem ok_Ratio_add {P : Program} {w : World} {K : PySem.W.Frag} {mg : Str → Option Value} {base : Heap} {A : Ads} (T : Txt K mg A) : FnOk P w K mg base (L2.CX P w) 5 A.f_Ratio_add A.d_Ratio_add ["self", "other"] (spM (gl K A) 2 (a2 m_Ratio_add)) := by
  have S := sc_Ratio_add
  exact fnS2 (k := 4) T.F_Ratio_add S [.non, .non] rfl fun cdv AA outer s H E B F0 => (all2 fun a_self a_other => ⟨_,
    (s_asg2 (i := 2) (j := 3) rfl rfl (x_call ⟨ok_terms T, (B.room.mono (by decide)), T.g_terms, T.k_terms, T.b_terms⟩ (by exact B.pass) rfl (a_cons (x_var (i := 1) rfl (.inl rfl) rfl) ea_nil) (len_cons len_nil)) (pg_name S.nd rfl (.inl rfl)) (pg_name S.nd rfl (.inl rfl)) (lt_of rfl) (lt_of rfl) (fun v1_top v2_bottom => (s_ret (x_makeP (k := 0) (ks := []) (p := [0, 1]) (ds := [.int 1]) (dvs := [.int 1]) T.mk_Ratio ⟨ok_Ratio_init T, (B.room.mono (by decide)), bn_Ratio_init_3 T⟩ (B.room.mono (by decide)) (by exact B.pass) rfl T.g_Ratio (a_cons (x_op op_add ov_add (x_op op_mulW ov_mul (ex_fld (k := 0) (j := 0) (x_var (i := 0) rfl (.inl rfl) rfl) T.cl_Ratio T.n_Ratio__top rfl nd_Ratio rfl) (x_var (i := 3) rfl (.inl rfl) rfl)) (x_op op_mulW ov_mul (x_var (i := 2) rfl (.inl rfl) rfl) (ex_fld (k := 0) (j := 1) (x_var (i := 0) rfl (.inl rfl) rfl) T.cl_Ratio T.n_Ratio__bottom rfl nd_Ratio rfl))) (a_cons (x_op op_mulW ov_mul (ex_fld (k := 0) (j := 1) (x_var (i := 0) rfl (.inl rfl) rfl) T.cl_Ratio T.n_Ratio__bottom rfl nd_Ratio rfl) (x_var (i := 3) rfl (.inl rfl) rfl)) ea_nil)) ek_nil (fun _ => (RepL.cons rfl RepL.nil)) ⟨.inr ⟨_, _, rfl, rfl⟩, rfl, rfl, rfl⟩ (len_cons (len_cons len_nil)) len_nil (pick_len2 rfl)))))⟩)
end Mir
namespace Mir
open PySem PySem.Spec PyProof.Rows L2
theorem sc_Ratio_radd : FnScope ["self", "other", "top", "bottom"] ["self", "other"] (defScope s_Ratio_radd) := ⟨rfl, rfl, rfl, by decide +kernel, rfl, by decide +kernel, by decide +kernel⟩
theorem ok_Ratio_radd {P : Program} {w : World} {K : PySem.W.Frag} {mg : Str → Option Value} {base : Heap} {A : Ads} (T : Txt K mg A) : FnOk P w K mg base (L2.CX P w) 5 A.f_Ratio_radd A.d_Ratio_radd ["self", "other"] (spM (gl K A) 2 (a2 m_Ratio_radd)) := by
  have S := sc_Ratio_radd
  exact fnS2 (k := 4) T.F_Ratio_radd S [.non, .non] rfl fun cdv AA outer s H E B F0 => (all2 fun a_self a_other => ⟨_,
    (s_asg2 (i := 2) (j := 3) rfl rfl (x_call ⟨ok_terms T, (B.room.mono (by decide)), T.g_terms, T.k_terms, T.b_terms⟩ (by exact B.pass) rfl (a_cons (x_var (i := 1) rfl (.inl rfl) rfl) ea_nil) (len_cons len_nil)) (pg_name S.nd rfl (.inl rfl)) (pg_name S.nd rfl (.inl rfl)) (lt_of rfl) (lt_of rfl) (fun v1_top v2_bottom => (s_ret (x_makeP (k := 0) (ks := []) (p := [0, 1]) (ds := [.int 1]) (dvs := [.int 1]) T.mk_Ratio ⟨ok_Ratio_init T, (B.room.mono (by decide)), bn_Ratio_init_3 T⟩ (B.room.mono (by decide)) (by exact B.pass) rfl T.g_Ratio (a_cons (x_op op_add ov_add (x_op op_mulW ov_mul (x_var (i := 2) rfl (.inl rfl) rfl) (ex_fld (k := 0) (j := 1) (x_var (i := 0) rfl (.inl rfl) rfl) T.cl_Ratio T.n_Ratio__bottom rfl nd_Ratio rfl)) (x_op op_mulW ov_mul (ex_fld (k := 0) (j := 0) (x_var (i := 0) rfl (.inl rfl) rfl) T.cl_Ratio T.n_Ratio__top rfl nd_Ratio rfl) (x_var (i := 3) rfl (.inl rfl) rfl))) (a_cons (x_op op_mulW ov_mul (x_var (i := 3) rfl (.inl rfl) rfl) (ex_fld (k := 0) (j := 1) (x_var (i := 0) rfl (.inl rfl) rfl) T.cl_Ratio T.n_Ratio__bottom rfl nd_Ratio rfl)) ea_nil)) ek_nil (fun _ => (RepL.cons rfl RepL.nil)) ⟨.inr ⟨_, _, rfl, rfl⟩, rfl, rfl, rfl⟩ (len_cons (len_cons len_nil)) len_nil (pick_len2 rfl)))))⟩)
end Mir
namespace Mir
open PySem PySem.Spec PyProof.Rows L2
theorem sc_Ratio_sub : FnScope ["self", "other", "top", "bottom"] ["self", "other"] (defScope s_Ratio_sub) := ⟨rfl, rfl, rfl, by decide +kernel, rfl, by decide +kernel, by decide +kernel⟩
theorem ok_Ratio_sub {P : Program} {w : World} {K : PySem.W.Frag} {mg : Str → Option Value} {base : Heap} {A : Ads} (T : Txt K mg A) : FnOk P w K mg base (L2.CX P w) 5 A.f_Ratio_sub A.d_Ratio_sub ["self", "other"] (spM (gl K A) 2 (a2 m_Ratio_sub)) := by
  have S := sc_Ratio_sub
  exact fnS2 (k := 4) T.F_Ratio_sub S [.non, .non] rfl fun cdv AA outer s H E B F0 => (all2 fun a_self a_other => ⟨_,
    (s_asg2 (i := 2) (j := 3) rfl rfl (x_call ⟨ok_terms T, (B.room.mono (by decide)), T.g_terms, T.k_terms, T.b_terms⟩ (by exact B.pass) rfl (a_cons (x_var (i := 1) rfl (.inl rfl) rfl) ea_nil) (len_cons len_nil)) (pg_name S.nd rfl (.inl rfl)) (pg_name S.nd rfl (.inl rfl)) (lt_of rfl) (lt_of rfl) (fun v1_top v2_bottom => (s_ret (x_makeP (k := 0) (ks := []) (p := [0, 1]) (ds := [.int 1]) (dvs := [.int 1]) T.mk_Ratio ⟨ok_Ratio_init T, (B.room.mono (by decide)), bn_Ratio_init_3 T⟩ (B.room.mono (by decide)) (by exact B.pass) rfl T.g_Ratio (a_cons (x_op op_sub ov_sub (x_op op_mulW ov_mul (ex_fld (k := 0) (j := 0) (x_var (i := 0) rfl (.inl rfl) rfl) T.cl_Ratio T.n_Ratio__top rfl nd_Ratio rfl) (x_var (i := 3) rfl (.inl rfl) rfl)) (x_op op_mulW ov_mul (x_var (i := 2) rfl (.inl rfl) rfl) (ex_fld (k := 0) (j := 1) (x_var (i := 0) rfl (.inl rfl) rfl) T.cl_Ratio T.n_Ratio__bottom rfl nd_Ratio rfl))) (a_cons (x_op op_mulW ov_mul (ex_fld (k := 0) (j := 1) (x_var (i := 0) rfl (.inl rfl) rfl) T.cl_Ratio T.n_Ratio__bottom rfl nd_Ratio rfl) (x_var (i := 3) rfl (.inl rfl) rfl)) ea_nil)) ek_nil (fun _ => (RepL.cons rfl RepL.nil)) ⟨.inr ⟨_, _, rfl, rfl⟩, rfl, rfl, rfl⟩ (len_cons (len_cons len_nil)) len_nil (pick_len2 rfl)))))⟩)
end Mir
namespace Mir
open PySem PySem.Spec PyProof.Rows L2
theorem sc_Ratio_rsub : FnScope ["self", "other", "top", "bottom"] ["self", "other"] (defScope s_Ratio_rsub) := ⟨rfl, rfl, rfl, by decide +kernel, rfl, by decide +kernel, by decide +kernel⟩
theorem ok_Ratio_rsub {P : Program} {w : World} {K : PySem.W.Frag} {mg : Str → Option Value} {base : Heap} {A : Ads} (T : Txt K mg A) : FnOk P w K mg base (L2.CX P w) 5 A.f_Ratio_rsub A.d_Ratio_rsub ["self", "other"] (spM (gl K A) 2 (a2 m_Ratio_rsub)) := by
  have S := sc_Ratio_rsub
  exact fnS2 (k := 4) T.F_Ratio_rsub S [.non, .non] rfl fun cdv AA outer s H E B F0 => (all2 fun a_self a_other => ⟨_,
    (s_asg2 (i := 2) (j := 3) rfl rfl (x_call ⟨ok_terms T, (B.room.mono (by decide)), T.g_terms, T.k_terms, T.b_terms⟩ (by exact B.pass) rfl (a_cons (x_var (i := 1) rfl (.inl rfl) rfl) ea_nil) (len_cons len_nil)) (pg_name S.nd rfl (.inl rfl)) (pg_name S.nd rfl (.inl rfl)) (lt_of rfl) (lt_of rfl) (fun v1_top v2_bottom => (s_ret (x_makeP (k := 0) (ks := []) (p := [0, 1]) (ds := [.int 1]) (dvs := [.int 1]) T.mk_Ratio ⟨ok_Ratio_init T, (B.room.mono (by decide)), bn_Ratio_init_3 T⟩ (B.room.mono (by decide)) (by exact B.pass) rfl T.g_Ratio (a_cons (x_op op_sub ov_sub (x_op op_mulW ov_mul (x_var (i := 2) rfl (.inl rfl) rfl) (ex_fld (k := 0) (j := 1) (x_var (i := 0) rfl (.inl rfl) rfl) T.cl_Ratio T.n_Ratio__bottom rfl nd_Ratio rfl)) (x_op op_mulW ov_mul (ex_fld (k := 0) (j := 0) (x_var (i := 0) rfl (.inl rfl) rfl) T.cl_Ratio T.n_Ratio__top rfl nd_Ratio rfl) (x_var (i := 3) rfl (.inl rfl) rfl))) (a_cons (x_op op_mulW ov_mul (x_var (i := 3) rfl (.inl rfl) rfl) (ex_fld (k := 0) (j := 1) (x_var (i := 0) rfl (.inl rfl) rfl) T.cl_Ratio T.n_Ratio__bottom rfl nd_Ratio rfl)) ea_nil)) ek_nil (fun _ => (RepL.cons rfl RepL.nil)) ⟨.inr ⟨_, _, rfl, rfl⟩, rfl, rfl, rfl⟩ (len_cons (len_cons len_nil)) len_nil (pick_len2 rfl)))))⟩)
end Mir
namespace Mir
open PySem PySem.Spec PyProof.Rows L2
theorem sc_Ratio_mul : FnScope ["self", "other", "top", "bottom"] ["self", "other"] (defScope s_Ratio_mul) := ⟨rfl, rfl, rfl, by decide +kernel, rfl, by decide +kernel, by decide +kernel⟩
theorem ok_Ratio_mul {P : Program} {w : World} {K : PySem.W.Frag} {mg : Str → Option Value} {base : Heap} {A : Ads} (T : Txt K mg A) : FnOk P w K mg base (L2.CX P w) 5 A.f_Ratio_mul A.d_Ratio_mul ["self", "other"] (spM (gl K A) 2 (a2 m_Ratio_mul)) := by
  have S := sc_Ratio_mul
  exact fnS2 (k := 4) T.F_Ratio_mul S [.non, .non] rfl fun cdv AA outer s H E B F0 => (all2 fun a_self a_other => ⟨_,
    (s_asg2 (i := 2) (j := 3) rfl rfl (x_call ⟨ok_terms T, (B.room.mono (by decide)), T.g_terms, T.k_terms, T.b_terms⟩ (by exact B.pass) rfl (a_cons (x_var (i := 1) rfl (.inl rfl) rfl) ea_nil) (len_cons len_nil)) (pg_name S.nd rfl (.inl rfl)) (pg_name S.nd rfl (.inl rfl)) (lt_of rfl) (lt_of rfl) (fun v1_top v2_bottom => (s_ret (x_makeP (k := 0) (ks := []) (p := [0, 1]) (ds := [.int 1]) (dvs := [.int 1]) T.mk_Ratio ⟨ok_Ratio_init T, (B.room.mono (by decide)), bn_Ratio_init_3 T⟩ (B.room.mono (by decide)) (by exact B.pass) rfl T.g_Ratio (a_cons (x_op op_mulW ov_mul (ex_fld (k := 0) (j := 0) (x_var (i := 0) rfl (.inl rfl) rfl) T.cl_Ratio T.n_Ratio__top rfl nd_Ratio rfl) (x_var (i := 2) rfl (.inl rfl) rfl)) (a_cons (x_op op_mulW ov_mul (ex_fld (k := 0) (j := 1) (x_var (i := 0) rfl (.inl rfl) rfl) T.cl_Ratio T.n_Ratio__bottom rfl nd_Ratio rfl) (x_var (i := 3) rfl (.inl rfl) rfl)) ea_nil)) ek_nil (fun _ => (RepL.cons rfl RepL.nil)) ⟨.inr ⟨_, _, rfl, rfl⟩, rfl, rfl, rfl⟩ (len_cons (len_cons len_nil)) len_nil (pick_len2 rfl)))))⟩)
end Mir
namespace Mir
open PySem PySem.Spec PyProof.Rows L2
theorem sc_Ratio_rmul : FnScope ["self", "other", "top", "bottom"] ["self", "other"] (defScope s_Ratio_rmul) := ⟨rfl, rfl, rfl, by decide +kernel, rfl, by decide +kernel, by decide +kernel⟩
theorem ok_Ratio_rmul {P : Program} {w : World} {K : PySem.W.Frag} {mg : Str → Option Value} {base : Heap} {A : Ads} (T : Txt K mg A) : FnOk P w K mg base (L2.CX P w) 5 A.f_Ratio_rmul A.d_Ratio_rmul ["self", "other"] (spM (gl K A) 2 (a2 m_Ratio_rmul)) := by
  have S := sc_Ratio_rmul
  exact fnS2 (k := 4) T.F_Ratio_rmul S [.non, .non] rfl fun cdv AA outer s H E B F0 => (all2 fun a_self a_other => ⟨_,
    (s_asg2 (i := 2) (j := 3) rfl rfl (x_call ⟨ok_terms T, (B.room.mono (by decide)), T.g_terms, T.k_terms, T.b_terms⟩ (by exact B.pass) rfl (a_cons (x_var (i := 1) rfl (.inl rfl) rfl) ea_nil) (len_cons len_nil)) (pg_name S.nd rfl (.inl rfl)) (pg_name S.nd rfl (.inl rfl)) (lt_of rfl) (lt_of rfl) (fun v1_top v2_bottom => (s_ret (x_makeP (k := 0) (ks := []) (p := [0, 1]) (ds := [.int 1]) (dvs := [.int 1]) T.mk_Ratio ⟨ok_Ratio_init T, (B.room.mono (by decide)), bn_Ratio_init_3 T⟩ (B.room.mono (by decide)) (by exact B.pass) rfl T.g_Ratio (a_cons (x_op op_mulW ov_mul (x_var (i := 2) rfl (.inl rfl) rfl) (ex_fld (k := 0) (j := 0) (x_var (i := 0) rfl (.inl rfl) rfl) T.cl_Ratio T.n_Ratio__top rfl nd_Ratio rfl)) (a_cons (x_op op_mulW ov_mul (x_var (i := 3) rfl (.inl rfl) rfl) (ex_fld (k := 0) (j := 1) (x_var (i := 0) rfl (.inl rfl) rfl) T.cl_Ratio T.n_Ratio__bottom rfl nd_Ratio rfl)) ea_nil)) ek_nil (fun _ => (RepL.cons rfl RepL.nil)) ⟨.inr ⟨_, _, rfl, rfl⟩, rfl, rfl, rfl⟩ (len_cons (len_cons len_nil)) len_nil (pick_len2 rfl)))))⟩)
end Mir
namespace Mir
open PySem PySem.Spec PyProof.Rows L2
theorem sc_Ratio_over : FnScope ["self", "other", "top", "bottom"] ["self", "other"] (defScope s_Ratio_over) := ⟨rfl, rfl, rfl, by decide +kernel, rfl, by decide +kernel, by decide +kernel⟩
theorem ok_Ratio_over {P : Program} {w : World} {K : PySem.W.Frag} {mg : Str → Option Value} {base : Heap} {A : Ads} (T : Txt K mg A) : FnOk P w K mg base (L2.CX P w) 5 A.f_Ratio_over A.d_Ratio_over ["self", "other"] (spM (gl K A) 2 (a2 m_Ratio_over)) := by
  have S := sc_Ratio_over
  exact fnS2 (k := 4) T.F_Ratio_over S [.non, .non] rfl fun cdv AA outer s H E B F0 => (all2 fun a_self a_other => ⟨_,
    (s_asg2 (i := 2) (j := 3) rfl rfl (x_call ⟨ok_terms T, (B.room.mono (by decide)), T.g_terms, T.k_terms, T.b_terms⟩ (by exact B.pass) rfl (a_cons (x_var (i := 1) rfl (.inl rfl) rfl) ea_nil) (len_cons len_nil)) (pg_name S.nd rfl (.inl rfl)) (pg_name S.nd rfl (.inl rfl)) (lt_of rfl) (lt_of rfl) (fun v1_top v2_bottom => (s_guard (t_cmp op_eq ov_eq (x_var (i := 2) rfl (.inl rfl) rfl) ex_int) sb_raise (s_ret (x_makeP (k := 0) (ks := []) (p := [0, 1]) (ds := [.int 1]) (dvs := [.int 1]) T.mk_Ratio ⟨ok_Ratio_init T, (B.room.mono (by decide)), bn_Ratio_init_3 T⟩ (B.room.mono (by decide)) (by exact B.pass) rfl T.g_Ratio (a_cons (x_op op_mulW ov_mul (ex_fld (k := 0) (j := 0) (x_var (i := 0) rfl (.inl rfl) rfl) T.cl_Ratio T.n_Ratio__top rfl nd_Ratio rfl) (x_var (i := 3) rfl (.inl rfl) rfl)) (a_cons (x_op op_mulW ov_mul (ex_fld (k := 0) (j := 1) (x_var (i := 0) rfl (.inl rfl) rfl) T.cl_Ratio T.n_Ratio__bottom rfl nd_Ratio rfl) (x_var (i := 2) rfl (.inl rfl) rfl)) ea_nil)) ek_nil (fun _ => (RepL.cons rfl RepL.nil)) ⟨.inr ⟨_, _, rfl, rfl⟩, rfl, rfl, rfl⟩ (len_cons (len_cons len_nil)) len_nil (pick_len2 rfl))))))⟩)
end Mir
namespace Mir
open PySem PySem.Spec PyProof.Rows L2
theorem sc_Ratio_is_below : FnScope ["self", "other", "top", "bottom"] ["self", "other"] (defScope s_Ratio_is_below) := ⟨rfl, rfl, rfl, by decide +kernel, rfl, by decide +kernel, by decide +kernel⟩
theorem ok_Ratio_is_below {P : Program} {w : World} {K : PySem.W.Frag} {mg : Str → Option Value} {base : Heap} {A : Ads} (T : Txt K mg A) : FnOk P w K mg base (L2.CX P w) 5 A.f_Ratio_is_below A.d_Ratio_is_below ["self", "other"] (spM (gl K A) 2 (a2 m_Ratio_is_below)) := by
  have S := sc_Ratio_is_below
  exact fnS2 (k := 4) T.F_Ratio_is_below S [.non, .non] rfl fun cdv AA outer s H E B F0 => (all2 fun a_self a_other => ⟨_,
    (s_asg2 (i := 2) (j := 3) rfl rfl (x_call ⟨ok_terms T, (B.room.mono (by decide)), T.g_terms, T.k_terms, T.b_terms⟩ (by exact B.pass) rfl (a_cons (x_var (i := 1) rfl (.inl rfl) rfl) ea_nil) (len_cons len_nil)) (pg_name S.nd rfl (.inl rfl)) (pg_name S.nd rfl (.inl rfl)) (lt_of rfl) (lt_of rfl) (fun v1_top v2_bottom => (s_ret (x_cmp op_lt ov_lt (x_op op_mulW ov_mul (ex_fld (k := 0) (j := 0) (x_var (i := 0) rfl (.inl rfl) rfl) T.cl_Ratio T.n_Ratio__top rfl nd_Ratio rfl) (x_var (i := 3) rfl (.inl rfl) rfl)) (x_op op_mulW ov_mul (x_var (i := 2) rfl (.inl rfl) rfl) (ex_fld (k := 0) (j := 1) (x_var (i := 0) rfl (.inl rfl) rfl) T.cl_Ratio T.n_Ratio__bottom rfl nd_Ratio rfl))))))⟩)
end Mir
namespace Mir
open PySem PySem.Spec PyProof.Rows L2
theorem sc_Ratio_is_at_most : FnScope ["self", "other", "top", "bottom"] ["self", "other"] (defScope s_Ratio_is_at_most) := ⟨rfl, rfl, rfl, by decide +kernel, rfl, by decide +kernel, by decide +kernel⟩
theorem ok_Ratio_is_at_most {P : Program} {w : World} {K : PySem.W.Frag} {mg : Str → Option Value} {base : Heap} {A : Ads} (T : Txt K mg A) : FnOk P w K mg base (L2.CX P w) 5 A.f_Ratio_is_at_most A.d_Ratio_is_at_most ["self", "other"] (spM (gl K A) 2 (a2 m_Ratio_is_at_most)) := by
  have S := sc_Ratio_is_at_most
  exact fnS2 (k := 4) T.F_Ratio_is_at_most S [.non, .non] rfl fun cdv AA outer s H E B F0 => (all2 fun a_self a_other => ⟨_,
    (s_asg2 (i := 2) (j := 3) rfl rfl (x_call ⟨ok_terms T, (B.room.mono (by decide)), T.g_terms, T.k_terms, T.b_terms⟩ (by exact B.pass) rfl (a_cons (x_var (i := 1) rfl (.inl rfl) rfl) ea_nil) (len_cons len_nil)) (pg_name S.nd rfl (.inl rfl)) (pg_name S.nd rfl (.inl rfl)) (lt_of rfl) (lt_of rfl) (fun v1_top v2_bottom => (s_ret (x_cmp op_le ov_le (x_op op_mulW ov_mul (ex_fld (k := 0) (j := 0) (x_var (i := 0) rfl (.inl rfl) rfl) T.cl_Ratio T.n_Ratio__top rfl nd_Ratio rfl) (x_var (i := 3) rfl (.inl rfl) rfl)) (x_op op_mulW ov_mul (x_var (i := 2) rfl (.inl rfl) rfl) (ex_fld (k := 0) (j := 1) (x_var (i := 0) rfl (.inl rfl) rfl) T.cl_Ratio T.n_Ratio__bottom rfl nd_Ratio rfl))))))⟩)
end Mir
namespace Mir
open PySem PySem.Spec PyProof.Rows L2
theorem sc_Ratio_total : FnScope ["cls", "numbers", "parts", "common", "part", "number", "top", "bottom"] ["cls", "numbers"] (defScope s_Ratio_total) := ⟨rfl, rfl, rfl, by decide +kernel, rfl, by decide +kernel, by decide +kernel⟩
theorem ok_Ratio_total {P : Program} {w : World} {K : PySem.W.Frag} {mg : Str → Option Value} {base : Heap} {A : Ads} (T : Txt K mg A) : FnOk P w K mg base (L2.CX P w) 5 A.f_Ratio_total A.d_Ratio_total ["cls", "numbers"] (spM (gl K A) 2 (a2 m_Ratio_total)) := by
  have S := sc_Ratio_total
  exact fnS2 (k := 4) T.F_Ratio_total S [.non, .non] rfl fun cdv AA outer s H E B F0 => (all2 fun a_cls a_numbers => ⟨_,
    (s_guard (t_not (t_val (ex_isLT T.kinds rfl rfl T.g_isinstance (x_var (i := 1) rfl (.inl rfl) rfl) (pe_bltn rfl T.g_list bt_list rfl) (pe_bltn rfl T.g_tuple bt_tuple rfl)))) sb_raise (s_setLc (i := 2) (lc1 (own := [("number", 5)]) (i := 5) rfl S.nd (blkOk_by (N := ["cls", "numbers", "parts", "common", "part", "number", "top", "bottom"]) (sc := defScope s_Ratio_total) (by decide +kernel)) (ei_seq (x_var (i := 1) rfl (.inl rfl) rfl) rfl) (Weak.refl _) rfl rfl (lt_of rfl) (by decide) (fun _ _ _ _ _ => .inl rfl) (fun _ _ _ _ _ => .inr rfl) (fun s H C cl fp v2_number => (x_call ⟨ok_terms T, (B.room.mono (by decide)), T.g_terms, T.k_terms, T.b_terms⟩ (by exact passL) rfl (a_cons (x_var (i := 5) rfl (.inl rfl) rfl) ea_nil) (len_cons len_nil)))) rfl rfl rfl (lt_of rfl) (fun v1_parts => (s_set (i := 3) S.nd rfl (.inr rfl) ex_int (lt_of rfl) (fun v3_common => (s_for (i := 4) (S := Val) (m_Ratio_total_l1 (fun v4_s => (onCls 0 a_cls (makeM 0 (consR ((consR (asL (((.ok v1_parts) >>= items) >>= mapR2 (fun v10_top v11_bottom => (op2 imul (.ok v10_top) (op2 ifdiv (.ok v4_s) (.ok v11_bottom)))))) (.ok [])) >>= bSum) (consR (.ok v4_s) (.ok []))) (.ok []) [0, 1] [.int 1] (i2 m_Ratio_init))))) (fun v4_s => [some (.val a_cls), some (.val a_numbers), some (.val v1_parts), some (.val v4_s), none, none, none, none]) v3_common B.own rfl (ei_seq (x_var (i := 2) rfl (.inl rfl) rfl) rfl) (.keep (.keep (.keep (.keep (.keep (.keep (.keep (.keep .nil)))))))) S.nd rfl (.inl rfl) (lt_of rfl) (fun v12_part v5_xs v4_s => (sb_as (((consR (.ok v4_s) (consR (op2 vix (.ok v12_part) (.ok (.int 1))) (.ok []))) >>= bLcm) >>= fun v13_common => (m_Ratio_total_l1 (fun v4_s => (onCls 0 a_cls (makeM 0 (consR ((consR (asL (((.ok v1_parts) >>= items) >>= mapR2 (fun v10_top v11_bottom => (op2 imul (.ok v10_top) (op2 ifdiv (.ok v4_s) (.ok v11_bottom)))))) (.ok [])) >>= bSum) (consR (.ok v4_s) (.ok []))) (.ok []) [0, 1] [.int 1] (i2 m_Ratio_init)))) v5_xs v13_common)) (s_set (i := 3) S.nd rfl (.inr rfl) (x_fun cr_lcm cv_lcm rfl T.g_lcm (a_cons (x_var (i := 3) rfl (.inr (.inl rfl)) rfl) (a_cons (x_ix (x_var (i := 4) rfl (.inl rfl) rfl) ex_int rfl) ea_nil))) (lt_of rfl) (fun v13_common => (s_turn (S := Val) v13_common (.keep (.keep (.keep (.keep (.drop (.keep (.keep (.keep .nil))))))))))))) (fun v4_s => (s_ret (x_makeLc (k := 0) (ks := []) (p := [0, 1]) (ds := [.int 1]) (dvs := [.int 1]) T.mk_Ratio ⟨ok_Ratio_init T, (B.room.mono (by decide)), bn_Ratio_init_3 T⟩ (B.room.mono (by decide)) (by exact B.pass) (x_var (i := 0) rfl (.inl rfl) rfl) (a_cons (x_blt (cr_sum rfl) cv_sum rfl T.g_sum bt_sum (a_cons (x_lc (lc2 (own := [("top", 6), ("bottom", 7)]) (i := 6) (j := 7) rfl S.nd rfl (blkOk_by (N := ["cls", "numbers", "parts", "common", "part", "number", "top", "bottom"]) (sc := defScope s_Ratio_total) (by decide +kernel)) (ei_seq (x_var (i := 2) rfl (.inl rfl) rfl) rfl) (Weak.refl _) rfl (lt_of rfl) (lt_of rfl) (by decide) (by decide) (fun _ _ _ _ _ => pg_name S.nd rfl (.inl rfl)) (fun _ _ _ _ _ => pg_name S.nd rfl (.inl rfl)) (fun s H C cl fp v10_top v11_bottom => (x_op op_mulW ov_mul (x_var (i := 6) rfl (.inl rfl) rfl) (x_op op_fdivG ov_fdiv (x_var (i := 3) rfl (.inr (.inl rfl)) rfl) (x_var (i := 7) rfl (.inl rfl) rfl)))))) ea_nil)) (a_cons (x_var (i := 3) rfl (.inr (.inl rfl)) rfl) ea_nil)) ek_nil (fun _ => (RepL.cons rfl RepL.nil)) ⟨.inr ⟨_, _, rfl, rfl⟩, rfl, rfl, rfl⟩ (len_cons (len_cons len_nil)) len_nil (pick_len2 rfl))))))))))⟩)
end Mir
namespace Mir
open PySem PySem.Spec PyProof.Rows L2
section
variable {c : Cxt} {X : Cx} {A : Ads} {e a b : Expr} {es : List Expr} {ta tb : TE} {tA : TA} {ρ : Ros} {m1 m2 : Res Val} {ml : Res (List Val)} {pos p : Pos}
theorem x_gadd (T : Txt X.K X.mg A) (hG : c.G = gl X.K A) (hr : Room 7 X.A) (hx : Passes (L2.CX X.prog X.w) X c.E) (h1 : EX c X a ta ρ m1) (h2 : EX c X b tb ρ m2) : EX c X (.BinOp a .Add b pos) (tOp (fun x y H Q => ((rI0 fun i j => .int (i + j)) x y H Q ∨ rOwn (c.G.cls 0) (spM c.G 2 (a2 m_Ratio_add)) c.E x y H Q) ∨ rROwn (c.G.cls 0) (spM c.G 2 (a2 m_Ratio_radd)) c.E x y H Q) ta tb) ρ (op2 gadd m1 m2) :=
  x_op (r := (fun x y H Q => ((rI0 fun i j => .int (i + j)) x y H Q ∨ rOwn (c.G.cls 0) (spM c.G 2 (a2 m_Ratio_add)) c.E x y H Q) ∨ rROwn (c.G.cls 0) (spM c.G 2 (a2 m_Ratio_radd)) c.E x y H Q)) (by
    rw [hG]
    exact op_or (op_or op_add (op_own rfl rfl T.O_add T.OI_add (ok_Ratio_add T) (hr.mono (by decide)) T.b_Ratio_add hx)) (op_rown rfl rfl T.O_add T.OR_add T.OI_add (ok_Ratio_radd T) (hr.mono (by decide)) T.b_Ratio_radd hx (by rfl) PySem.F.slot_int_add dec_add)) (ov_gop ov_add) h1 h2
theorem x_gsub (T : Txt X.K X.mg A) (hG : c.G = gl X.K A) (hr : Room 7 X.A) (hx : Passes (L2.CX X.prog X.w) X c.E) (h1 : EX c X a ta ρ m1) (h2 : EX c X b tb ρ m2) : EX c X (.BinOp a .Sub b pos) (tOp (fun x y H Q => ((rI0 fun i j => .int (i - j)) x y H Q ∨ rOwn (c.G.cls 0) (spM c.G 2 (a2 m_Ratio_sub)) c.E x y H Q) ∨ rROwn (c.G.cls 0) (spM c.G 2 (a2 m_Ratio_rsub)) c.E x y H Q) ta tb) ρ (op2 gsub m1 m2) :=
  x_op (r := (fun x y H Q => ((rI0 fun i j => .int (i - j)) x y H Q ∨ rOwn (c.G.cls 0) (spM c.G 2 (a2 m_Ratio_sub)) c.E x y H Q) ∨ rROwn (c.G.cls 0) (spM c.G 2 (a2 m_Ratio_rsub)) c.E x y H Q)) (by
    rw [hG]
    exact op_or (op_or op_sub (op_own rfl rfl T.O_sub T.OI_sub (ok_Ratio_sub T) (hr.mono (by decide)) T.b_Ratio_sub hx)) (op_rown rfl rfl T.O_sub T.OR_sub T.OI_sub (ok_Ratio_rsub T) (hr.mono (by decide)) T.b_Ratio_rsub hx (by rfl) PySem.F.slot_int_sub dec_sub)) (ov_gop ov_sub) h1 h2
theorem x_gmul (T : Txt X.K X.mg A) (hG : c.G = gl X.K A) (hr : Room 7 X.A) (hx : Passes (L2.CX X.prog X.w) X c.E) (h1 : EX c X a ta ρ m1) (h2 : EX c X b tb ρ m2) : EX c X (.BinOp a .Mult b pos) (tOp (fun x y H Q => ((rI CMulW fun i j => .int (i * j)) x y H Q ∨ rOwn (c.G.cls 0) (spM c.G 2 (a2 m_Ratio_mul)) c.E x y H Q) ∨ rROwn (c.G.cls 0) (spM c.G 2 (a2 m_Ratio_rmul)) c.E x y H Q) ta tb) ρ (op2 gmul m1 m2) :=
  x_op (r := (fun x y H Q => ((rI CMulW fun i j => .int (i * j)) x y H Q ∨ rOwn (c.G.cls 0) (spM c.G 2 (a2 m_Ratio_mul)) c.E x y H Q) ∨ rROwn (c.G.cls 0) (spM c.G 2 (a2 m_Ratio_rmul)) c.E x y H Q)) (by
    rw [hG]
    exact op_or (op_or op_mulW (op_own rfl rfl T.O_mul T.OI_mul (ok_Ratio_mul T) (hr.mono (by decide)) T.b_Ratio_mul hx)) (op_rown rfl rfl T.O_mul T.OR_mul T.OI_mul (ok_Ratio_rmul T) (hr.mono (by decide)) T.b_Ratio_rmul hx (by rfl) PySem.F.slot_int_mul dec_mul)) (ov_gop ov_mul) h1 h2
theorem x_gneg (T : Txt X.K X.mg A) (hG : c.G = gl X.K A) (hr : Room 7 X.A) (hx : Passes (L2.CX X.prog X.w) X c.E) (h1 : EX c X a ta ρ m1) : EX c X (.UnaryOp .USub a pos) (tUn (fun x H Q => (rU fun i => .int (-i)) x H Q ∨ rNegOwn (c.G.cls 0) (spM c.G 1 (a1 m_Ratio_neg)) c.E x H Q) ta) ρ (m1 >>= gneg) :=
  x_un (r := (fun x H Q => (rU fun i => .int (-i)) x H Q ∨ rNegOwn (c.G.cls 0) (spM c.G 1 (a1 m_Ratio_neg)) c.E x H Q)) (by
    rw [hG]
    exact un_or un_neg (un_own T.neg_at T.neg_fn (ok_Ratio_neg T) (hr.mono (by decide)) T.b_Ratio_neg hx)) (uv_gun uv_neg) h1
theorem o_geq_ (T : Txt X.K X.mg A) (hG : c.G = gl X.K A) (hr : Room 7 X.A) (hx : Passes (L2.CX X.prog X.w) X c.E) : OpR X (compareOp .Eq) (fun x y H Q => rEq x y H Q ∨ rOwn (c.G.cls 0) (spM c.G 2 (a2 m_Ratio_eq)) c.E x y H Q) := by
  rw [hG]
  exact op_or op_eq (op_eqOwn T.eq_at T.eq_fn T.eq_sub (ok_Ratio_eq T) (hr.mono (by decide)) (Nat.lt_of_succ_lt (hu_of hr)) T.b_Ratio_eq hx)
theorem x_geq_ (T : Txt X.K X.mg A) (hG : c.G = gl X.K A) (hr : Room 7 X.A) (hx : Passes (L2.CX X.prog X.w) X c.E) (h1 : EX c X a ta ρ m1) (h2 : EX c X b tb ρ m2) (hm : behindInMarks .Eq b = false := by first | exact nomark _ | rfl) : EX c X (.Compare a [.Eq] [b] pos) (tOp (fun x y H Q => rEq x y H Q ∨ rOwn (c.G.cls 0) (spM c.G 2 (a2 m_Ratio_eq)) c.E x y H Q) ta tb) ρ (op2 geq_ m1 m2) := x_cmp (o_geq_ T hG hr hx) ov_geq h1 h2 hm
theorem t_geq_ (T : Txt X.K X.mg A) (hG : c.G = gl X.K A) (hr : Room 7 X.A) (hx : Passes (L2.CX X.prog X.w) X c.E) (h1 : EX c X a ta ρ m1) (h2 : EX c X b tb ρ m2) (hm : behindInMarks .Eq b = false := by first | exact nomark _ | rfl) : ET c X (.Compare a [.Eq] [b] pos) (tTest (tOp (fun x y H Q => rEq x y H Q ∨ rOwn (c.G.cls 0) (spM c.G 2 (a2 m_Ratio_eq)) c.E x y H Q) ta tb)) ρ (tst (op2 geq_ m1 m2)) := t_cmp (o_geq_ T hG hr hx) ov_geq h1 h2 hm
theorem o_gne_ (T : Txt X.K X.mg A) (hG : c.G = gl X.K A) (hr : Room 7 X.A) (hx : Passes (L2.CX X.prog X.w) X c.E) : OpR X (compareOp .NotEq) (fun x y H Q => rNe x y H Q ∨ rOwnNe (c.G.cls 0) (spM c.G 2 (a2 m_Ratio_eq)) c.E x y H Q) := by
  rw [hG]
  exact op_or op_ne (op_neOwn T.ne_at T.ne_so T.eq_at T.eq_fn T.eq_sub (ok_Ratio_eq T) (hr.mono (by decide)) T.b_Ratio_eq hx)
theorem x_gne_ (T : Txt X.K X.mg A) (hG : c.G = gl X.K A) (hr : Room 7 X.A) (hx : Passes (L2.CX X.prog X.w) X c.E) (h1 : EX c X a ta ρ m1) (h2 : EX c X b tb ρ m2) (hm : behindInMarks .NotEq b = false := by first | exact nomark _ | rfl) : EX c X (.Compare a [.NotEq] [b] pos) (tOp (fun x y H Q => rNe x y H Q ∨ rOwnNe (c.G.cls 0) (spM c.G 2 (a2 m_Ratio_eq)) c.E x y H Q) ta tb) ρ (op2 gne_ m1 m2) := x_cmp (o_gne_ T hG hr hx) ov_gne h1 h2 hm
theorem t_gne_ (T : Txt X.K X.mg A) (hG : c.G = gl X.K A) (hr : Room 7 X.A) (hx : Passes (L2.CX X.prog X.w) X c.E) (h1 : EX c X a ta ρ m1) (h2 : EX c X b tb ρ m2) (hm : behindInMarks .NotEq b = false := by first | exact nomark _ | rfl) : ET c X (.Compare a [.NotEq] [b] pos) (tTest (tOp (fun x y H Q => rNe x y H Q ∨ rOwnNe (c.G.cls 0) (spM c.G 2 (a2 m_Ratio_eq)) c.E x y H Q) ta tb)) ρ (tst (op2 gne_ m1 m2)) := t_cmp (o_gne_ T hG hr hx) ov_gne h1 h2 hm
theorem x_gstr (T : Txt X.K X.mg A) (hG : c.G = gl X.K A) (hr : Room 7 X.A) (hx : Passes (L2.CX X.prog X.w) X c.E) (h : EA c X (e :: es) tA ρ ml) (hg : Gl X "str") (he : starEach (e :: es) X.env = (false, eval e X.env) :: starEach es X.env := by rfl) (hpl : (backTo pos (starEach es X.env)).any (·.1) = false := by rfl) : EX c X (.Call (.Name "str" p) (e :: es) [] pos) (tCB (fun xs H Q => (∃ i, xs = [.int i] ∧ i.natAbs.log2 < 1920 ∧ Q (.str (toString i)) H) ∨ rTxt (c.G.cls 0) (spM c.G 1 (a1 m_Ratio_str)) c.E xs H Q) tA) ρ (ml >>= gstr) :=
  x_ty (r := (fun xs H Q => (∃ i, xs = [.int i] ∧ i.natAbs.log2 < 1920 ∧ Q (.str (toString i)) H) ∨ rTxt (c.G.cls 0) (spM c.G 1 (a1 m_Ratio_str)) c.E xs H Q)) (by
    rw [hG]
    exact callR_or call_str_int (call_strOwn T.str_at T.str_fn (ok_Ratio_str T) (hr.mono (by decide)) T.b_Ratio_str hx)) cv_str hg T.g_str bt_str h (by decide) (by decide) he hpl
theorem x_grepr (T : Txt X.K X.mg A) (hG : c.G = gl X.K A) (hgd : X.A.guards = some []) (hr : Room 7 X.A) (hx : Passes (L2.CX X.prog X.w) X c.E) (h : EA c X (e :: es) tA ρ ml) (hg : Gl X "repr") (he : starEach (e :: es) X.env = (false, eval e X.env) :: starEach es X.env := by rfl) (hpl : (backTo pos (starEach es X.env)).any (·.1) = false := by rfl) : EX c X (.Call (.Name "repr" p) (e :: es) [] pos) (tCB (fun xs H Q => rRep X xs H Q ∨ rTxt (c.G.cls 0) (spM c.G 1 (a1 m_Ratio_repr)) c.E xs H Q) tA) ρ (ml >>= grepr) :=
  x_blt (r := (fun xs H Q => rRep X xs H Q ∨ rTxt (c.G.cls 0) (spM c.G 1 (a1 m_Ratio_repr)) c.E xs H Q)) (by
    rw [hG]
    exact callR_or (call_reprData hgd (Nat.lt_of_le_of_lt (Nat.le_refl _) hr.units)) (call_reprOwn T.repr_at T.repr_fn (ok_Ratio_repr T) (hr.mono (by decide)) T.b_Ratio_repr hx)) (cv_repr (by rw [hG])) hg T.g_repr bt_repr h (by decide) (by decide) he hpl
end
end Mir
namespace Mir
open PySem PySem.Spec PyProof.Rows L2
theorem sc_law_pot : FnScope ["_law_script", "_law_k", "_law_cell"] ["_law_script", "_law_k"] (defScope s_law_pot) := ⟨rfl, rfl, rfl, by decide +kernel, rfl, by decide +kernel, by decide +kernel⟩
theorem ok_law_pot {P : Program} {w : World} {K : PySem.W.Frag} {mg : Str → Option Value} {base : Heap} {A : Ads} (T : Txt K mg A) : FnG P w K mg base 8 A.f_law_pot A.d_law_pot ["_law_script", "_law_k"] (spN (gl K A) 2 (n2 m_law_pot)) := by
  have S := sc_law_pot
  exact fnSN2 (k := 7) T.F_law_pot S [.non, .non] rfl fun cdv AA outer s H E B F0 => (all2 fun a_script a_k => ⟨_,
    (s_set (i := 2) S.nd rfl (.inl rfl) (x_op op_add ov_add (x_op op_mulW ov_mul ex_int (x_var (i := 1) rfl (.inl rfl) rfl)) ex_int) (lt_of rfl) (fun v1_cell => (s_ifJ2 (S := Val) (fun v2_s => [some (.val a_script), some (.val a_k), some (.val v2_s)]) .non (t_cmp op_lt ov_lt (x_var (i := 1) rfl (.inl rfl) rfl) (x_blt call_len_seq cv_len rfl T.g_len bt_len (a_cons (x_var (i := 0) rfl (.inl rfl) rfl) ea_nil))) (s_set (i := 2) S.nd rfl (.inl rfl) (x_blt call_abs cv_abs rfl T.g_abs bt_abs (a_cons (x_ix (x_var (i := 0) rfl (.inl rfl) rfl) (x_var (i := 1) rfl (.inl rfl) rfl) rfl) ea_nil)) (lt_of rfl) (fun v4_cell => (s_join (S := Val) v4_cell (.keep (.keep (.keep .nil)))))) (s_join (S := Val) v1_cell (.keep (.keep (.keep .nil)))) (fun v2_s => (sb_retL (a_cons (x_blt (call_max2 rfl) cv_max2 rfl T.g_max bt_max (a_cons ex_int (a_cons (x_op op_sub ov_sub (x_var (i := 2) rfl (.inl rfl) rfl) (x_op op_pow ov_pow ex_int ex_int)) ea_nil))) (a_cons (x_op op_add ov_add (x_op op_modN ov_mod (x_ty call_int1 cv_int rfl T.g_int bt_int (a_cons (x_op op_add ov_add (x_op op_mulW ov_mul (x_op op_modN ov_mod (x_ty call_int1 cv_int rfl T.g_int bt_int (a_cons (x_var (i := 2) rfl (.inl rfl) rfl) ea_nil)) ex_int) (x_op op_add ov_add (x_op op_mulW ov_mul ex_int (x_var (i := 1) rfl (.inl rfl) rfl)) ex_int)) ex_int) ea_nil)) ex_int) ex_int) ea_nil)) (fun xs h => by rw [(len_cons (len_cons len_nil)) xs h]; decide))))))⟩)
end Mir
namespace Mir
open PySem PySem.Spec PyProof.Rows L2
theorem sc_law_draw : FnScope ["_law_pot_here", "_law_size", "_law_digit"] ["_law_pot_here", "_law_size"] (defScope s_law_draw) := ⟨rfl, rfl, rfl, by decide +kernel, rfl, by decide +kernel, by decide +kernel⟩
theorem ok_law_draw {P : Program} {w : World} {K : PySem.W.Frag} {mg : Str → Option Value} {base : Heap} {A : Ads} (T : Txt K mg A) : FnG P w K mg base 8 A.f_law_draw A.d_law_draw ["_law_pot_here", "_law_size"] (spQ (gl K A) 1 (p1 m_law_draw)) := by
  have S := sc_law_draw
  exact fnSP2 (n := 1) (k := 7) T.F_law_draw S rfl [.non] rfl fun cdv AA outer s H E B F0 a pot => (all1 fun a_size => ⟨_,
    (s_guard (t_cmp op_gt ov_gt (x_ixP (i := 0) (p_var rfl (.inl rfl)) rfl ex_int) ex_int) (s_digit (ρ := fun zs => [some (.pot zs), some (.val a_size), none]) (xs := pot) (k := 0) (i := 2) (potAt_p (fun _ => rfl) (fun _ _ => rfl) (fun _ => rfl)) rfl (p_var rfl (.inl rfl)) (p_var rfl (.inl rfl)) rfl T.g_divmod (x_var (i := 1) rfl (.inl rfl) rfl) S.nd rfl (.inl rfl) (by decide) (lt_of rfl) (fun v2_digit v1_pot => (s_retP (ρ := fun zs => [some (.pot zs), some (.val a_size), some (.val v2_digit)]) (k := 0) (xs := v1_pot) (potAt_p (fun _ => rfl) (fun _ _ => rfl) (fun _ => rfl)) rfl (ef_lift fun zs => (x_var (i := 2) rfl (.inl rfl) rfl))))) (s_put (ρ := fun zs => [some (.pot zs), some (.val a_size), none]) (xs := pot) (k := 0) (potAt_p (fun _ => rfl) (fun _ _ => rfl) (fun _ => rfl)) (p_var rfl (.inl rfl)) (ef_lift fun zs => (x_op op_modN ov_mod (x_ty call_int1 cv_int rfl T.g_int bt_int (a_cons (x_op op_add ov_add (x_op op_mulW ov_mul (x_ixP (i := 0) (p_var rfl (.inl rfl)) rfl ex_int) ex_int) ex_int) ea_nil)) ex_int)) (fun _ => ex_int) (fun v3_pot => (s_retP (ρ := fun zs => [some (.pot zs), some (.val a_size), none]) (k := 0) (xs := v3_pot) (potAt_p (fun _ => rfl) (fun _ _ => rfl) (fun _ => rfl)) rfl (ef_lift fun zs => (x_op op_modN ov_mod (x_ty call_int1 cv_int rfl T.g_int bt_int (a_cons (x_op op_fdivG ov_fdiv (x_op op_modN ov_mod (x_ty call_int1 cv_int rfl T.g_int bt_int (a_cons (x_op op_mulW ov_mul (x_ixP (i := 0) (p_var rfl (.inl rfl)) rfl ex_int) (x_ixP (i := 0) (p_var rfl (.inl rfl)) rfl ex_int)) ea_nil)) ex_int) ex_int) ea_nil)) (x_var (i := 1) rfl (.inl rfl) rfl)))))))⟩)
end Mir
namespace Mir
open PySem PySem.Spec PyProof.Rows L2
theorem sc_law_common : FnScope ["_law_one", "_law_other", "_law_near", "_law_far"] ["_law_one", "_law_other"] (defScope s_law_common) := ⟨rfl, rfl, rfl, by decide +kernel, rfl, by decide +kernel, by decide +kernel⟩
theorem ok_law_common {P : Program} {w : World} {K : PySem.W.Frag} {mg : Str → Option Value} {base : Heap} {A : Ads} (T : Txt K mg A) : FnG P w K mg base 8 A.f_law_common A.d_law_common ["_law_one", "_law_other"] (spM (gl K A) 2 (a2 m_law_common)) := by
  have S := sc_law_common
  exact fnSG2 (k := 7) T.F_law_common S [.non, .non] rfl fun cdv AA outer s H E B F0 => (all2 fun a_one a_other => ⟨_,
    (s_par2' (i := 2) (j := 3) S.nd rfl rfl (by decide) rfl rfl (x_blt call_abs cv_abs rfl T.g_abs bt_abs (a_cons (x_var (i := 0) rfl (.inl rfl) rfl) ea_nil)) (x_blt call_abs cv_abs rfl T.g_abs bt_abs (a_cons (x_var (i := 1) rfl (.inl rfl) rfl) ea_nil)) (lt_of rfl) (lt_of rfl) (fun v1_near v2_far => (s_while (S := Val × Val) (m_law_common_w1 (fun v3_s => (.ok v3_s.1))) (fun v3_s => (tst (op2 igt (.ok v3_s.2) (.ok (.int 0))))) (fun v4_n v3_s => ((.ok v3_s.2) >>= fun v6_near => (op2 imod (.ok v3_s.1) (.ok v3_s.2)) >>= fun v7_far => (m_law_common_w1 (fun v3_s => (.ok v3_s.1)) v4_n (v6_near, v7_far)))) (fun v3_s => (.ok v3_s.1)) (fun v3_s => [some (.val a_one), some (.val a_other), some (.val v3_s.1), some (.val v3_s.2)]) (fuel [v1_near, v2_far]) (v1_near, v2_far) (fun _ => rfl) (fun _ _ => rfl) (.keep (.keep (.keep (.keep .nil)))) B.own (fun v3_s => (t_cmp op_gt ov_gt (x_var (i := 3) rfl (.inl rfl) rfl) ex_int)) (fun v4_n v3_s => (s_par2' (i := 2) (j := 3) S.nd rfl rfl (by decide) rfl rfl (x_var (i := 3) rfl (.inl rfl) rfl) (x_op op_modN ov_mod (x_var (i := 2) rfl (.inl rfl) rfl) (x_var (i := 3) rfl (.inl rfl) rfl)) (lt_of rfl) (lt_of rfl) (fun v8_near v9_far => (s_wturn (S := Val × Val) (v8_near, v9_far) (.keep (.keep (.keep (.keep .nil)))))))) (fun v3_s => (s_ret (x_var (i := 2) rfl (.inl rfl) rfl))))))⟩)
end Mir
namespace Mir
open PySem PySem.Spec PyProof.Rows L2
theorem sc_law_pick : FnScope ["_law_pot_here", "_law_some"] ["_law_pot_here", "_law_some"] (defScope s_law_pick) := ⟨rfl, rfl, rfl, by decide +kernel, rfl, by decide +kernel, by decide +kernel⟩
theorem ok_law_pick {P : Program} {w : World} {K : PySem.W.Frag} {mg : Str → Option Value} {base : Heap} {A : Ads} (T : Txt K mg A) : FnG P w K mg base 9 A.f_law_pick A.d_law_pick ["_law_pot_here", "_law_some"] (spQ (gl K A) 1 (p1 m_law_pick)) := by
  have S := sc_law_pick
  exact fnSP2 (n := 1) (k := 8) T.F_law_pick S rfl [.non] rfl fun cdv AA outer s H E B F0 a pot => (all1 fun a_some => ⟨_,
    (s_retP (ρ := fun zs => [some (.pot zs), some (.val a_some)]) (k := 0) (xs := pot) (potAt_p (fun _ => rfl) (fun _ _ => rfl) (fun _ => rfl)) rfl (ef_ix (ef_lift fun zs => (x_var (i := 1) rfl (.inl rfl) rfl)) (ef_callP (n := 1) (k := 0) (potAt_p (fun _ => rfl) (fun _ _ => rfl) (fun _ => rfl)) ⟨ok_law_draw T, B.gd, (B.room.mono (by decide)), T.b_law_draw, T.g_law_draw, T.k_law_draw⟩ (by exact B.pass) rfl (p_var rfl (.inl rfl)) (efa_lift fun zs => (a_cons (x_blt call_len_seq cv_len rfl T.g_len bt_len (a_cons (x_var (i := 1) rfl (.inl rfl) rfl) ea_nil)) ea_nil)) rfl (flen_lift fun zs => (len_cons len_nil)) ⟨.inr ⟨_, _, rfl, rfl⟩, rfl, rfl, rfl⟩) rfl))⟩)
end Mir
namespace Mir
open PySem PySem.Spec PyProof.Rows L2
theorem sc_law_top : FnScope ["_law_pot_here", "_law_way", "_law_found", "_law_turn"] ["_law_pot_here"] (defScope s_law_top) := ⟨rfl, rfl, rfl, by decide +kernel, rfl, by decide +kernel, by decide +kernel⟩
theorem ok_law_top {P : Program} {w : World} {K : PySem.W.Frag} {mg : Str → Option Value} {base : Heap} {A : Ads} (T : Txt K mg A) : FnG P w K mg base 9 A.f_law_top A.d_law_top ["_law_pot_here"] (spQ (gl K A) 0 (p0 m_law_top)) := by
  have S := sc_law_top
  exact fnSP2 (n := 0) (k := 8) T.F_law_top S rfl [] rfl fun cdv AA outer s H E B F0 a pot => (all0 ⟨_,
    (s_setF (ρ := fun zs => [some (.pot zs), none, none, none]) (xs := pot) (i := 1) S.nd rfl (.inl rfl) (ef_callP (n := 1) (k := 0) (potAt_p (fun _ => rfl) (fun _ _ => rfl) (fun _ => rfl)) ⟨ok_law_draw T, B.gd, (B.room.mono (by decide)), T.b_law_draw, T.g_law_draw, T.k_law_draw⟩ (by exact B.pass) rfl (p_var rfl (.inl rfl)) (efa_lift fun zs => (a_cons ex_int ea_nil)) rfl (flen_lift fun zs => (len_cons len_nil)) ⟨.inr ⟨_, _, rfl, rfl⟩, rfl, rfl, rfl⟩) (lt_of rfl) (fun v1_way v2_pot => (s_guard (t_cmp op_lt ov_lt (x_var (i := 1) rfl (.inl rfl) rfl) ex_int) (s_retP (ρ := fun zs => [some (.pot zs), some (.val v1_way), none, none]) (k := 0) (xs := v2_pot) (potAt_p (fun _ => rfl) (fun _ _ => rfl) (fun _ => rfl)) rfl (ef_op op_sub ov_sub (ef_callP (n := 1) (k := 0) (potAt_p (fun _ => rfl) (fun _ _ => rfl) (fun _ => rfl)) ⟨ok_law_draw T, B.gd, (B.room.mono (by decide)), T.b_law_draw, T.g_law_draw, T.k_law_draw⟩ (by exact B.pass) rfl (p_var rfl (.inl rfl)) (efa_lift fun zs => (a_cons ex_int ea_nil)) rfl (flen_lift fun zs => (len_cons len_nil)) ⟨.inr ⟨_, _, rfl, rfl⟩, rfl, rfl, rfl⟩) (ef_lift fun zs => ex_int))) (s_set (i := 2) S.nd rfl (.inl rfl) ex_int (lt_of rfl) (fun v3_found => (s_for (i := 3) (S := List Val × Val) (m_law_top_l1 (fun v4_s => (retP ((fif (ftst (fop seq (fcall (p1 m_law_draw) (fl fun zs => (consR (.ok (.int 2)) (.ok [])))) (fl fun zs => (.ok (.int 0))))) (fl fun zs => (.ok v4_s.2)) (fl fun zs => (op2 isub (.ok (.int 0)) (.ok v4_s.2)))) v4_s.1)))) (fun v4_s => [some (.pot v4_s.1), some (.val v1_way), some (.val v4_s.2), none]) (v2_pot, v3_found) B.own rfl (ei_rng1 rfl T.g_range (a_cons (x_if (t_cmp op_eq ov_eq (x_var (i := 1) rfl (.inl rfl) rfl) ex_int) ex_int ex_int) ea_nil)) (.keep (.keep (.keep (.keep .nil)))) S.nd rfl (.inl rfl) (lt_of rfl) (fun v11_turn v5_xs v4_s => (sb_as (bindF ((fop iadd (fl fun zs => (op2 imul (.ok v4_s.2) (op2 ipow (.ok (.int 10)) (.ok (.int 9))))) (fcall (p1 m_law_draw) (fl fun zs => (consR (op2 ipow (.ok (.int 10)) (.ok (.int 9))) (.ok []))))) v4_s.1) fun v12_found v13_pot => (m_law_top_l1 (fun v4_s => (retP ((fif (ftst (fop seq (fcall (p1 m_law_draw) (fl fun zs => (consR (.ok (.int 2)) (.ok [])))) (fl fun zs => (.ok (.int 0))))) (fl fun zs => (.ok v4_s.2)) (fl fun zs => (op2 isub (.ok (.int 0)) (.ok v4_s.2)))) v4_s.1))) v5_xs (v13_pot, v12_found))) (s_setF (ρ := fun zs => [some (.pot zs), some (.val v1_way), some (.val v4_s.2), some (.val v11_turn)]) (xs := v4_s.1) (i := 2) S.nd rfl (.inl rfl) (ef_op op_add ov_add (ef_lift fun zs => (x_op op_mulW ov_mul (x_var (i := 2) rfl (.inl rfl) rfl) (x_op op_pow ov_pow ex_int ex_int))) (ef_callP (n := 1) (k := 0) (potAt_p (fun _ => rfl) (fun _ _ => rfl) (fun _ => rfl)) ⟨ok_law_draw T, B.gd, (B.room.mono (by decide)), T.b_law_draw, T.g_law_draw, T.k_law_draw⟩ (by exact B.pass) rfl (p_var rfl (.inl rfl)) (efa_lift fun zs => (a_cons (x_op op_pow ov_pow ex_int ex_int) ea_nil)) rfl (flen_lift fun zs => (len_cons len_nil)) ⟨.inr ⟨_, _, rfl, rfl⟩, rfl, rfl, rfl⟩)) (lt_of rfl) (fun v12_found v13_pot => (s_turn (S := List Val × Val) (v13_pot, v12_found) (.keep (.keep (.keep (.drop .nil))))))))) (fun v4_s => (s_retP (ρ := fun zs => [some (.pot zs), some (.val v1_way), some (.val v4_s.2), none]) (k := 0) (xs := v4_s.1) (potAt_p (fun _ => rfl) (fun _ _ => rfl) (fun _ => rfl)) rfl (ef_if (eft_cmp op_eq ov_eq (ef_callP (n := 1) (k := 0) (potAt_p (fun _ => rfl) (fun _ _ => rfl) (fun _ => rfl)) ⟨ok_law_draw T, B.gd, (B.room.mono (by decide)), T.b_law_draw, T.g_law_draw, T.k_law_draw⟩ (by exact B.pass) rfl (p_var rfl (.inl rfl)) (efa_lift fun zs => (a_cons ex_int ea_nil)) rfl (flen_lift fun zs => (len_cons len_nil)) ⟨.inr ⟨_, _, rfl, rfl⟩, rfl, rfl, rfl⟩) (ef_lift fun zs => ex_int)) (ef_lift fun zs => (x_var (i := 2) rfl (.inl rfl) rfl)) (ef_lift fun zs => (x_op op_sub ov_sub ex_int (x_var (i := 2) rfl (.inl rfl) rfl))))))))))))⟩)
end Mir
namespace Mir
open PySem PySem.Spec PyProof.Rows L2
theorem sc_law_whole : FnScope ["_law_pot_here"] ["_law_pot_here"] (defScope s_law_whole) := ⟨rfl, rfl, rfl, by decide +kernel, rfl, by decide +kernel, by decide +kernel⟩
theorem ok_law_whole {P : Program} {w : World} {K : PySem.W.Frag} {mg : Str → Option Value} {base : Heap} {A : Ads} (T : Txt K mg A) : FnG P w K mg base 9 A.f_law_whole A.d_law_whole ["_law_pot_here"] (spQ (gl K A) 0 (p0 m_law_whole)) := by
  have S := sc_law_whole
  exact fnSP2 (n := 0) (k := 8) T.F_law_whole S rfl [] rfl fun cdv AA outer s H E B F0 a pot => (all0 ⟨_,
    (s_retP (ρ := fun zs => [some (.pot zs)]) (k := 0) (xs := pot) (potAt_p (fun _ => rfl) (fun _ _ => rfl) (fun _ => rfl)) rfl (ef_if (eft_cmp op_eq ov_eq (ef_callP (n := 1) (k := 0) (potAt_p (fun _ => rfl) (fun _ _ => rfl) (fun _ => rfl)) ⟨ok_law_draw T, B.gd, (B.room.mono (by decide)), T.b_law_draw, T.g_law_draw, T.k_law_draw⟩ (by exact B.pass) rfl (p_var rfl (.inl rfl)) (efa_lift fun zs => (a_cons ex_int ea_nil)) rfl (flen_lift fun zs => (len_cons len_nil)) ⟨.inr ⟨_, _, rfl, rfl⟩, rfl, rfl, rfl⟩) (ef_lift fun zs => ex_int)) (ef_op op_sub ov_sub (ef_callP (n := 1) (k := 0) (potAt_p (fun _ => rfl) (fun _ _ => rfl) (fun _ => rfl)) ⟨ok_law_draw T, B.gd, (B.room.mono (by decide)), T.b_law_draw, T.g_law_draw, T.k_law_draw⟩ (by exact B.pass) rfl (p_var rfl (.inl rfl)) (efa_lift fun zs => (a_cons ex_int ea_nil)) rfl (flen_lift fun zs => (len_cons len_nil)) ⟨.inr ⟨_, _, rfl, rfl⟩, rfl, rfl, rfl⟩) (ef_lift fun zs => ex_int)) (ef_op op_sub ov_sub (ef_callP (n := 1) (k := 0) (potAt_p (fun _ => rfl) (fun _ _ => rfl) (fun _ => rfl)) ⟨ok_law_draw T, B.gd, (B.room.mono (by decide)), T.b_law_draw, T.g_law_draw, T.k_law_draw⟩ (by exact B.pass) rfl (p_var rfl (.inl rfl)) (efa_lift fun zs => (a_cons ex_int ea_nil)) rfl (flen_lift fun zs => (len_cons len_nil)) ⟨.inr ⟨_, _, rfl, rfl⟩, rfl, rfl, rfl⟩) (ef_lift fun zs => ex_int))))⟩)
end Mir
namespace Mir
open PySem PySem.Spec PyProof.Rows L2
theorem sc_law_is : FnScope ["_law_ratio", "_law_top_here", "_law_bottom", "_law_text", "_law_sign"] ["_law_ratio", "_law_top_here", "_law_bottom"] (defScope s_law_is) := ⟨rfl, rfl, rfl, by decide +kernel, rfl, by decide +kernel, by decide +kernel⟩
theorem ok_law_is {P : Program} {w : World} {K : PySem.W.Frag} {mg : Str → Option Value} {base : Heap} {A : Ads} (T : Txt K mg A) : FnG P w K mg base 9 A.f_law_is A.d_law_is ["_law_ratio", "_law_top_here", "_law_bottom"] (spM (gl K A) 3 (a3 m_law_is)) := by
  have S := sc_law_is
  exact fnSG2 (k := 8) T.F_law_is S [.non, .non, .non] rfl fun cdv AA outer s H E B F0 => (all3 fun a_ratio a_top_here a_bottom => ⟨_,
    (s_guard (EW.et (ew_or (t_not (t_val (ex_isO (j := 0) T.kinds rfl rfl T.g_isinstance (x_var (i := 0) rfl (.inl rfl) rfl) (pe_glob rfl T.g_Ratio rfl)))) (ew_or (t_cmp op_lt ov_lt (x_prop (k := 0) (x_var (i := 0) rfl (.inl rfl) rfl) T.cl_Ratio T.P_Ratio_bottom (ok_Ratio_bottom T) (B.room.mono (by decide)) T.b_Ratio_bottom passL) ex_int) (ew_or (t_cmp op_ne ov_ne (x_op op_mulW ov_mul (x_prop (k := 0) (x_var (i := 0) rfl (.inl rfl) rfl) T.cl_Ratio T.P_Ratio_top (ok_Ratio_top T) (B.room.mono (by decide)) T.b_Ratio_top passL) (x_var (i := 2) rfl (.inl rfl) rfl)) (x_op op_mulW ov_mul (x_var (i := 1) rfl (.inl rfl) rfl) (x_prop (k := 0) (x_var (i := 0) rfl (.inl rfl) rfl) T.cl_Ratio T.P_Ratio_bottom (ok_Ratio_bottom T) (B.room.mono (by decide)) T.b_Ratio_bottom passL))) (ew_one (t_cmp op_ne ov_ne (x_callG (n := 2) ⟨ok_law_common T, B.gd, (B.room.mono (by decide)), T.b_law_common, T.g_law_common, T.k_law_common⟩ (by exact B.pass) rfl (a_cons (x_prop (k := 0) (x_var (i := 0) rfl (.inl rfl) rfl) T.cl_Ratio T.P_Ratio_top (ok_Ratio_top T) (B.room.mono (by decide)) T.b_Ratio_top passL) (a_cons (x_prop (k := 0) (x_var (i := 0) rfl (.inl rfl) rfl) T.cl_Ratio T.P_Ratio_bottom (ok_Ratio_bottom T) (B.room.mono (by decide)) T.b_Ratio_bottom passL) ea_nil)) rfl (len_cons (len_cons len_nil)) ⟨.inr ⟨_, _, rfl, rfl⟩, rfl, rfl, rfl⟩) ex_int) (.inr rfl)))))) (s_ret ex_bl) (s_set (i := 3) S.nd rfl (.inl rfl) (x_op (op_or op_add_str op_add) ov_sadd (x_gstr T rfl (B.room.mono (by decide)) (by exact B.pass) (a_cons (x_prop (k := 0) (x_var (i := 0) rfl (.inl rfl) rfl) T.cl_Ratio T.P_Ratio_top (ok_Ratio_top T) (B.room.mono (by decide)) T.b_Ratio_top passL) ea_nil) rfl) (x_if (t_cmp op_ne ov_ne (x_prop (k := 0) (x_var (i := 0) rfl (.inl rfl) rfl) T.cl_Ratio T.P_Ratio_bottom (ok_Ratio_bottom T) (B.room.mono (by decide)) T.b_Ratio_bottom passL) ex_int) (x_op (op_or op_add_str op_add) ov_sadd ex_str (x_gstr T rfl (B.room.mono (by decide)) (by exact B.pass) (a_cons (x_prop (k := 0) (x_var (i := 0) rfl (.inl rfl) rfl) T.cl_Ratio T.P_Ratio_bottom (ok_Ratio_bottom T) (B.room.mono (by decide)) T.b_Ratio_bottom passL) ea_nil) rfl)) ex_str)) (lt_of rfl) (fun v1_text => (s_guard (EW.et (ew_or (t_cmp op_ne ov_ne (x_gstr T rfl (B.room.mono (by decide)) (by exact B.pass) (a_cons (x_var (i := 0) rfl (.inl rfl) rfl) ea_nil) rfl) (x_var (i := 3) rfl (.inl rfl) rfl)) (ew_one (t_cmp op_ne ov_ne (x_grepr T rfl B.gd (B.room.mono (by decide)) (by exact B.pass) (a_cons (x_var (i := 0) rfl (.inl rfl) rfl) ea_nil) rfl) (x_op (op_or op_add_str op_add) ov_sadd (x_op (op_or op_add_str op_add) ov_sadd (x_op (op_or op_add_str op_add) ov_sadd (x_op (op_or op_add_str op_add) ov_sadd ex_str (x_gstr T rfl (B.room.mono (by decide)) (by exact B.pass) (a_cons (x_prop (k := 0) (x_var (i := 0) rfl (.inl rfl) rfl) T.cl_Ratio T.P_Ratio_top (ok_Ratio_top T) (B.room.mono (by decide)) T.b_Ratio_top passL) ea_nil) rfl)) ex_str) (x_gstr T rfl (B.room.mono (by decide)) (by exact B.pass) (a_cons (x_prop (k := 0) (x_var (i := 0) rfl (.inl rfl) rfl) T.cl_Ratio T.P_Ratio_bottom (ok_Ratio_bottom T) (B.room.mono (by decide)) T.b_Ratio_bottom passL) ea_nil) rfl)) ex_str)) (.inr rfl)))) (s_ret ex_bl) (s_set (i := 4) S.nd rfl (.inl rfl) (x_op op_sub ov_sub (x_ty call_int1 cv_int rfl T.g_int bt_int (a_cons (x_cmp op_gt ov_gt (x_prop (k := 0) (x_var (i := 0) rfl (.inl rfl) rfl) T.cl_Ratio T.P_Ratio_top (ok_Ratio_top T) (B.room.mono (by decide)) T.b_Ratio_top passL) ex_int) ea_nil)) (x_ty call_int1 cv_int rfl T.g_int bt_int (a_cons (x_cmp op_lt ov_lt (x_prop (k := 0) (x_var (i := 0) rfl (.inl rfl) rfl) T.cl_Ratio T.P_Ratio_top (ok_Ratio_top T) (B.room.mono (by decide)) T.b_Ratio_top passL) ex_int) ea_nil))) (lt_of rfl) (fun v2_sign => (s_ret (ex_and (x_cmp op_eq ov_eq (x_grepr T rfl B.gd (B.room.mono (by decide)) (by exact B.pass) (a_cons (x_lst (a_cons (x_prop (k := 0) (x_var (i := 0) rfl (.inl rfl) rfl) T.cl_Ratio T.P_Ratio_sign (ok_Ratio_sign T) (B.room.mono (by decide)) T.b_Ratio_sign passL) (a_cons (x_prop (k := 0) (x_var (i := 0) rfl (.inl rfl) rfl) T.cl_Ratio T.P_Ratio_is_whole (ok_Ratio_is_whole T) (B.room.mono (by decide)) T.b_Ratio_is_whole passL) ea_nil))) ea_nil) rfl) (x_grepr T rfl B.gd (B.room.mono (by decide)) (by exact B.pass) (a_cons (x_lst (a_cons (x_var (i := 4) rfl (.inl rfl) rfl) (a_cons (x_cmp op_eq ov_eq (x_prop (k := 0) (x_var (i := 0) rfl (.inl rfl) rfl) T.cl_Ratio T.P_Ratio_bottom (ok_Ratio_bottom T) (B.room.mono (by decide)) T.b_Ratio_bottom passL) ex_int) ea_nil))) ea_nil) rfl)) (ex_one (x_geq_ T rfl (B.room.mono (by decide)) (by exact B.pass) (x_methP (k := 0) (ks := []) (p := [0]) (ds := []) (dvs := []) (x_var (i := 0) rfl (.inl rfl) rfl) T.cl_Ratio T.M_Ratio_size ⟨ok_Ratio_size T, (B.room.mono (by decide)), bn_Ratio_size_1 T⟩ (by exact B.pass) ea_nil ek_nil (fun _ => RepL.nil) ⟨.inl ⟨rfl, rfl⟩, rfl, rfl, rfl⟩ nf_Ratio_size len_nil len_nil (pick_len3 rfl)) (x_makeP (k := 0) (ks := []) (p := [0, 1]) (ds := [.int 1]) (dvs := [.int 1]) T.mk_Ratio ⟨ok_Ratio_init T, (B.room.mono (by decide)), bn_Ratio_init_3 T⟩ (B.room.mono (by decide)) (by exact B.pass) rfl T.g_Ratio (a_cons (x_blt call_abs cv_abs rfl T.g_abs bt_abs (a_cons (x_prop (k := 0) (x_var (i := 0) rfl (.inl rfl) rfl) T.cl_Ratio T.P_Ratio_top (ok_Ratio_top T) (B.room.mono (by decide)) T.b_Ratio_top passL) ea_nil)) (a_cons (x_prop (k := 0) (x_var (i := 0) rfl (.inl rfl) rfl) T.cl_Ratio T.P_Ratio_bottom (ok_Ratio_bottom T) (B.room.mono (by decide)) T.b_Ratio_bottom passL) ea_nil)) ek_nil (fun _ => (RepL.cons rfl RepL.nil)) ⟨.inr ⟨_, _, rfl, rfl⟩, rfl, rfl, rfl⟩ (len_cons (len_cons len_nil)) len_nil (pick_len2 rfl))))))))))))⟩)
end Mir
namespace Mir
open PySem PySem.Spec PyProof.Rows L2
theorem sc_law_pair : FnScope ["_law_pot_here", "_law_bottom"] ["_law_pot_here"] (defScope s_law_pair) := ⟨rfl, rfl, rfl, by decide +kernel, rfl, by decide +kernel, by decide +kernel⟩
theorem ok_law_pair {P : Program} {w : World} {K : PySem.W.Frag} {mg : Str → Option Value} {base : Heap} {A : Ads} (T : Txt K mg A) : FnG P w K mg base 10 A.f_law_pair A.d_law_pair ["_law_pot_here"] (spQ (gl K A) 0 (p0 m_law_pair)) := by
  have S := sc_law_pair
  exact fnSP2 (n := 0) (k := 9) T.F_law_pair S rfl [] rfl fun cdv AA outer s H E B F0 a pot => (all0 ⟨_,
    (s_setF (ρ := fun zs => [some (.pot zs), none]) (xs := pot) (i := 1) S.nd rfl (.inl rfl) (ef_if (eft_cmp op_eq ov_eq (ef_callP (n := 1) (k := 0) (potAt_p (fun _ => rfl) (fun _ _ => rfl) (fun _ => rfl)) ⟨ok_law_draw T, B.gd, (B.room.mono (by decide)), T.b_law_draw, T.g_law_draw, T.k_law_draw⟩ (by exact B.pass) rfl (p_var rfl (.inl rfl)) (efa_lift fun zs => (a_cons ex_int ea_nil)) rfl (flen_lift fun zs => (len_cons len_nil)) ⟨.inr ⟨_, _, rfl, rfl⟩, rfl, rfl, rfl⟩) (ef_lift fun zs => ex_int)) (ef_callP (n := 0) (k := 0) (potAt_p (fun _ => rfl) (fun _ _ => rfl) (fun _ => rfl)) ⟨ok_law_top T, B.gd, (B.room.mono (by decide)), T.b_law_top, T.g_law_top, T.k_law_top⟩ (by exact B.pass) rfl (p_var rfl (.inl rfl)) (efa_lift fun zs => ea_nil) rfl (flen_lift fun zs => len_nil) ⟨.inr ⟨_, _, rfl, rfl⟩, rfl, rfl, rfl⟩) (ef_op op_add ov_add (ef_lift fun zs => ex_int) (ef_callP (n := 1) (k := 0) (potAt_p (fun _ => rfl) (fun _ _ => rfl) (fun _ => rfl)) ⟨ok_law_draw T, B.gd, (B.room.mono (by decide)), T.b_law_draw, T.g_law_draw, T.k_law_draw⟩ (by exact B.pass) rfl (p_var rfl (.inl rfl)) (efa_lift fun zs => (a_cons ex_int ea_nil)) rfl (flen_lift fun zs => (len_cons len_nil)) ⟨.inr ⟨_, _, rfl, rfl⟩, rfl, rfl, rfl⟩))) (lt_of rfl) (fun v1_bottom v2_pot => (s_retP (ρ := fun zs => [some (.pot zs), some (.val v1_bottom)]) (k := 0) (xs := v2_pot) (potAt_p (fun _ => rfl) (fun _ _ => rfl) (fun _ => rfl)) rfl (ef_tup (efa_cons (ef_callP (n := 0) (k := 0) (potAt_p (fun _ => rfl) (fun _ _ => rfl) (fun _ => rfl)) ⟨ok_law_top T, B.gd, (B.room.mono (by decide)), T.b_law_top, T.g_law_top, T.k_law_top⟩ (by exact B.pass) rfl (p_var rfl (.inl rfl)) (efa_lift fun zs => ea_nil) rfl (flen_lift fun zs => len_nil) ⟨.inr ⟨_, _, rfl, rfl⟩, rfl, rfl, rfl⟩) (efa_lift fun zs => (a_cons (x_if (t_cmp op_ne ov_ne (x_var (i := 1) rfl (.inl rfl) rfl) ex_int) (x_var (i := 1) rfl (.inl rfl) rfl) ex_int) ea_nil)))))))⟩)
end Mir
namespace Mir
open PySem PySem.Spec PyProof.Rows L2
theorem sc_law_two_right : FnScope ["_law_one", "_law_other", "_law_near", "_law_far", "_law_a", "_law_b", "_law_c", "_law_d", "_law_below", "_law_told"] ["_law_one", "_law_other"] (defScope s_law_two_right) := ⟨rfl, rfl, rfl, by decide +kernel, rfl, by decide +kernel, by decide +kernel⟩
theorem ok_law_two_right {P : Program} {w : World} {K : PySem.W.Frag} {mg : Str → Option Value} {base : Heap} {A : Ads} (T : Txt K mg A) : FnG P w K mg base 10 A.f_law_two_right A.d_law_two_right ["_law_one", "_law_other"] (spM (gl K A) 2 (a2 m_law_two_right)) := by
  have S := sc_law_two_right
  exact fnSG2 (k := 9) T.F_law_two_right S [.non, .non] rfl fun cdv AA outer s H E B F0 => (all2 fun a_one a_other => ⟨_,
    (s_par2' (i := 2) (j := 3) S.nd rfl rfl (by decide) rfl rfl (x_makeP (k := 0) (ks := []) (p := [0, 1]) (ds := [.int 1]) (dvs := [.int 1]) T.mk_Ratio ⟨ok_Ratio_init T, (B.room.mono (by decide)), bn_Ratio_init_3 T⟩ (B.room.mono (by decide)) (by exact B.pass) rfl T.g_Ratio (a_cons (x_ix (x_var (i := 0) rfl (.inl rfl) rfl) ex_int rfl) (a_cons (x_ix (x_var (i := 0) rfl (.inl rfl) rfl) ex_int rfl) ea_nil)) ek_nil (fun _ => (RepL.cons rfl RepL.nil)) ⟨.inr ⟨_, _, rfl, rfl⟩, rfl, rfl, rfl⟩ (len_cons (len_cons len_nil)) len_nil (pick_len2 rfl)) (x_makeP (k := 0) (ks := ["top", "bottom"]) (p := [0, 1]) (ds := [.int 1]) (dvs := [.int 1]) T.mk_Ratio ⟨ok_Ratio_init T, (B.room.mono (by decide)), bn_Ratio_init_1_top_bottom T⟩ (B.room.mono (by decide)) (by exact B.pass) rfl T.g_Ratio ea_nil (ek_cons (x_ix (x_var (i := 1) rfl (.inl rfl) rfl) ex_int rfl) (ek_cons (x_ix (x_var (i := 1) rfl (.inl rfl) rfl) ex_int rfl) ek_nil)) (fun _ => (RepL.cons rfl RepL.nil)) ⟨.inl ⟨rfl, rfl⟩, rfl, rfl, rfl⟩ len_nil (len_cons (len_cons len_nil)) (pick_len2 rfl)) (lt_of rfl) (lt_of rfl) (fun v1_near v2_far => (s_asg22 (i := 4) (j := 5) (k := 6) (l := 7) rfl rfl (x_tup (a_cons (x_var (i := 0) rfl (.inl rfl) rfl) (a_cons (x_var (i := 1) rfl (.inl rfl) rfl) ea_nil))) (pg_name S.nd rfl (.inl rfl)) (pg_name S.nd rfl (.inl rfl)) (pg_name S.nd rfl (.inl rfl)) (pg_name S.nd rfl (.inl rfl)) (lt_of rfl) (lt_of rfl) (lt_of rfl) (lt_of rfl) (fun v3_a v4_b v5_c v6_d => (s_guard (EW.et (ew_or (t_not (t_val (x_callG (n := 3) ⟨ok_law_is T, B.gd, (B.room.mono (by decide)), T.b_law_is, T.g_law_is, T.k_law_is⟩ (by exact B.pass) rfl (a_cons (x_var (i := 2) rfl (.inl rfl) rfl) (a_cons (x_var (i := 4) rfl (.inl rfl) rfl) (a_cons (x_var (i := 5) rfl (.inl rfl) rfl) ea_nil))) rfl (len_cons (len_cons (len_cons len_nil))) ⟨.inr ⟨_, _, rfl, rfl⟩, rfl, rfl, rfl⟩))) (ew_or (t_not (t_val (x_callG (n := 3) ⟨ok_law_is T, B.gd, (B.room.mono (by decide)), T.b_law_is, T.g_law_is, T.k_law_is⟩ (by exact B.pass) rfl (a_cons (x_gadd T rfl (B.room.mono (by decide)) (by exact B.pass) (x_var (i := 2) rfl (.inl rfl) rfl) (x_var (i := 3) rfl (.inl rfl) rfl)) (a_cons (x_op op_add ov_add (x_op op_mulW ov_mul (x_var (i := 4) rfl (.inl rfl) rfl) (x_var (i := 7) rfl (.inl rfl) rfl)) (x_op op_mulW ov_mul (x_var (i := 6) rfl (.inl rfl) rfl) (x_var (i := 5) rfl (.inl rfl) rfl))) (a_cons (x_op op_mulW ov_mul (x_var (i := 5) rfl (.inl rfl) rfl) (x_var (i := 7) rfl (.inl rfl) rfl)) ea_nil))) rfl (len_cons (len_cons (len_cons len_nil))) ⟨.inr ⟨_, _, rfl, rfl⟩, rfl, rfl, rfl⟩))) (ew_one (t_not (t_val (x_callG (n := 3) ⟨ok_law_is T, B.gd, (B.room.mono (by decide)), T.b_law_is, T.g_law_is, T.k_law_is⟩ (by exact B.pass) rfl (a_cons (x_gsub T rfl (B.room.mono (by decide)) (by exact B.pass) (x_var (i := 2) rfl (.inl rfl) rfl) (x_var (i := 3) rfl (.inl rfl) rfl)) (a_cons (x_op op_sub ov_sub (x_op op_mulW ov_mul (x_var (i := 4) rfl (.inl rfl) rfl) (x_var (i := 7) rfl (.inl rfl) rfl)) (x_op op_mulW ov_mul (x_var (i := 6) rfl (.inl rfl) rfl) (x_var (i := 5) rfl (.inl rfl) rfl))) (a_cons (x_op op_mulW ov_mul (x_var (i := 5) rfl (.inl rfl) rfl) (x_var (i := 7) rfl (.inl rfl) rfl)) ea_nil))) rfl (len_cons (len_cons (len_cons len_nil))) ⟨.inr ⟨_, _, rfl, rfl⟩, rfl, rfl, rfl⟩))) (.inr rfl))))) (s_ret ex_bl) (s_guard (EW.et (ew_or (t_not (t_val (x_callG (n := 3) ⟨ok_law_is T, B.gd, (B.room.mono (by decide)), T.b_law_is, T.g_law_is, T.k_law_is⟩ (by exact B.pass) rfl (a_cons (x_gmul T rfl (B.room.mono (by decide)) (by exact B.pass) (x_var (i := 2) rfl (.inl rfl) rfl) (x_var (i := 3) rfl (.inl rfl) rfl)) (a_cons (x_op op_mulW ov_mul (x_var (i := 4) rfl (.inl rfl) rfl) (x_var (i := 6) rfl (.inl rfl) rfl)) (a_cons (x_op op_mulW ov_mul (x_var (i := 5) rfl (.inl rfl) rfl) (x_var (i := 7) rfl (.inl rfl) rfl)) ea_nil))) rfl (len_cons (len_cons (len_cons len_nil))) ⟨.inr ⟨_, _, rfl, rfl⟩, rfl, rfl, rfl⟩))) (ew_one (t_not (t_val (x_callG (n := 3) ⟨ok_law_is T, B.gd, (B.room.mono (by decide)), T.b_law_is, T.g_law_is, T.k_law_is⟩ (by exact B.pass) rfl (a_cons (x_gneg T rfl (B.room.mono (by decide)) (by exact B.pass) (x_var (i := 2) rfl (.inl rfl) rfl)) (a_cons (x_op op_sub ov_sub ex_int (x_var (i := 4) rfl (.inl rfl) rfl)) (a_cons (x_var (i := 5) rfl (.inl rfl) rfl) ea_nil))) rfl (len_cons (len_cons (len_cons len_nil))) ⟨.inr ⟨_, _, rfl, rfl⟩, rfl, rfl, rfl⟩))) (.inr rfl)))) (s_ret ex_bl) (s_guard (EW.et (ew_and (t_cmp op_ne ov_ne (x_var (i := 6) rfl (.inl rfl) rfl) ex_int) (ew_one (t_not (t_val (x_callG (n := 3) ⟨ok_law_is T, B.gd, (B.room.mono (by decide)), T.b_law_is, T.g_law_is, T.k_law_is⟩ (by exact B.pass) rfl (a_cons (x_methP (k := 0) (ks := ["other"]) (p := [0, 1]) (ds := []) (dvs := []) (x_var (i := 2) rfl (.inl rfl) rfl) T.cl_Ratio T.M_Ratio_over ⟨ok_Ratio_over T, (B.room.mono (by decide)), bn_Ratio_over_1_other T⟩ (by exact B.pass) ea_nil (ek_cons (x_var (i := 3) rfl (.inl rfl) rfl) ek_nil) (fun _ => RepL.nil) ⟨.inl ⟨rfl, rfl⟩, rfl, rfl, rfl⟩ nf_Ratio_over len_nil (len_cons len_nil) (pick_len3 rfl)) (a_cons (x_op op_mulW ov_mul (x_var (i := 4) rfl (.inl rfl) rfl) (x_var (i := 7) rfl (.inl rfl) rfl)) (a_cons (x_op op_mulW ov_mul (x_var (i := 5) rfl (.inl rfl) rfl) (x_var (i := 6) rfl (.inl rfl) rfl)) ea_nil))) rfl (len_cons (len_cons (len_cons len_nil))) ⟨.inr ⟨_, _, rfl, rfl⟩, rfl, rfl, rfl⟩))) (.inl rfl)))) (s_ret ex_bl) (s_set (i := 8) S.nd rfl (.inl rfl) (x_op op_mulW ov_mul (x_op op_mulW ov_mul (x_op op_sub ov_sub (x_op op_mulW ov_mul (x_var (i := 4) rfl (.inl rfl) rfl) (x_var (i := 7) rfl (.inl rfl) rfl)) (x_op op_mulW ov_mul (x_var (i := 6) rfl (.inl rfl) rfl) (x_var (i := 5) rfl (.inl rfl) rfl))) (x_var (i := 5) rfl (.inl rfl) rfl)) (x_var (i := 7) rfl (.inl rfl) rfl)) (lt_of rfl) (fun v7_below => (s_set (i := 9) S.nd rfl (.inl rfl) (x_lst (a_cons (x_methP (k := 0) (ks := []) (p := [0, 1]) (ds := []) (dvs := []) (x_var (i := 2) rfl (.inl rfl) rfl) T.cl_Ratio T.M_Ratio_is_below ⟨ok_Ratio_is_below T, (B.room.mono (by decide)), bn_Ratio_is_below_2 T⟩ (by exact B.pass) (a_cons (x_var (i := 3) rfl (.inl rfl) rfl) ea_nil) ek_nil (fun _ => RepL.nil) ⟨.inr ⟨_, _, rfl, rfl⟩, rfl, rfl, rfl⟩ nf_Ratio_is_below (len_cons len_nil) len_nil (pick_len3 rfl)) (a_cons (x_methP (k := 0) (ks := []) (p := [0, 1]) (ds := []) (dvs := []) (x_var (i := 2) rfl (.inl rfl) rfl) T.cl_Ratio T.M_Ratio_is_at_most ⟨ok_Ratio_is_at_most T, (B.room.mono (by decide)), bn_Ratio_is_at_most_2 T⟩ (by exact B.pass) (a_cons (x_var (i := 3) rfl (.inl rfl) rfl) ea_nil) ek_nil (fun _ => RepL.nil) ⟨.inr ⟨_, _, rfl, rfl⟩, rfl, rfl, rfl⟩ nf_Ratio_is_at_most (len_cons len_nil) len_nil (pick_len3 rfl)) (a_cons (x_methP (k := 0) (ks := ["other"]) (p := [0, 1]) (ds := []) (dvs := []) (x_var (i := 3) rfl (.inl rfl) rfl) T.cl_Ratio T.M_Ratio_is_below ⟨ok_Ratio_is_below T, (B.room.mono (by decide)), bn_Ratio_is_below_1_other T⟩ (by exact B.pass) ea_nil (ek_cons (x_var (i := 2) rfl (.inl rfl) rfl) ek_nil) (fun _ => RepL.nil) ⟨.inl ⟨rfl, rfl⟩, rfl, rfl, rfl⟩ nf_Ratio_is_below len_nil (len_cons len_nil) (pick_len3 rfl)) (a_cons (x_geq_ T rfl (B.room.mono (by decide)) (by exact B.pass) (x_var (i := 2) rfl (.inl rfl) rfl) (x_var (i := 3) rfl (.inl rfl) rfl)) (a_cons (x_gne_ T rfl (B.room.mono (by decide)) (by exact B.pass) (x_var (i := 2) rfl (.inl rfl) rfl) (x_var (i := 3) rfl (.inl rfl) rfl)) ea_nil)))))) (lt_of rfl) (fun v8_told => (s_ret (x_cmp op_eq ov_eq (x_grepr T rfl B.gd (B.room.mono (by decide)) (by exact B.pass) (a_cons (x_var (i := 9) rfl (.inl rfl) rfl) ea_nil) rfl) (x_grepr T rfl B.gd (B.room.mono (by decide)) (by exact B.pass) (a_cons (x_lst (a_cons (x_cmp op_lt ov_lt (x_var (i := 8) rfl (.inl rfl) rfl) ex_int) (a_cons (x_cmp op_le ov_le (x_var (i := 8) rfl (.inl rfl) rfl) ex_int) (a_cons (x_cmp op_gt ov_gt (x_var (i := 8) rfl (.inl rfl) rfl) ex_int) (a_cons (x_cmp op_eq ov_eq (x_var (i := 8) rfl (.inl rfl) rfl) ex_int) (a_cons (x_cmp op_ne ov_ne (x_var (i := 8) rfl (.inl rfl) rfl) ex_int) ea_nil)))))) ea_nil) rfl))))))))))))))⟩)
end Mir
namespace Mir
open PySem PySem.Spec PyProof.Rows L2
theorem sc_law_whole_right : FnScope ["_law_one", "_law_whole_here", "_law_near", "_law_a", "_law_b", "_law_below"] ["_law_one", "_law_whole_here"] (defScope s_law_whole_right) := ⟨rfl, rfl, rfl, by decide +kernel, rfl, by decide +kernel, by decide +kernel⟩
theorem ok_law_whole_right {P : Program} {w : World} {K : PySem.W.Frag} {mg : Str → Option Value} {base : Heap} {A : Ads} (T : Txt K mg A) : FnG P w K mg base 10 A.f_law_whole_right A.d_law_whole_right ["_law_one", "_law_whole_here"] (spM (gl K A) 2 (a2 m_law_whole_right)) := by
  have S := sc_law_whole_right
  exact fnSG2 (k := 9) T.F_law_whole_right S [.non, .non] rfl fun cdv AA outer s H E B F0 => (all2 fun a_one a_whole_here => ⟨_,
    (s_asg12 (k := 2) (i := 3) (j := 4) rfl rfl (x_tup (a_cons (x_makeP (k := 0) (ks := []) (p := [0, 1]) (ds := [.int 1]) (dvs := [.int 1]) T.mk_Ratio ⟨ok_Ratio_init T, (B.room.mono (by decide)), bn_Ratio_init_3 T⟩ (B.room.mono (by decide)) (by exact B.pass) rfl T.g_Ratio (a_cons (x_ix (x_var (i := 0) rfl (.inl rfl) rfl) ex_int rfl) (a_cons (x_ix (x_var (i := 0) rfl (.inl rfl) rfl) ex_int rfl) ea_nil)) ek_nil (fun _ => (RepL.cons rfl RepL.nil)) ⟨.inr ⟨_, _, rfl, rfl⟩, rfl, rfl, rfl⟩ (len_cons (len_cons len_nil)) len_nil (pick_len2 rfl)) (a_cons (x_var (i := 0) rfl (.inl rfl) rfl) ea_nil))) (pg_name S.nd rfl (.inl rfl)) (pg_name S.nd rfl (.inl rfl)) (pg_name S.nd rfl (.inl rfl)) (lt_of rfl) (lt_of rfl) (lt_of rfl) (fun v1_near v2_a v3_b => (s_guard (EW.et (ew_or (t_not (t_val (x_callG (n := 3) ⟨ok_law_is T, B.gd, (B.room.mono (by decide)), T.b_law_is, T.g_law_is, T.k_law_is⟩ (by exact B.pass) rfl (a_cons (x_gadd T rfl (B.room.mono (by decide)) (by exact B.pass) (x_var (i := 2) rfl (.inl rfl) rfl) (x_var (i := 1) rfl (.inl rfl) rfl)) (a_cons (x_op op_add ov_add (x_var (i := 3) rfl (.inl rfl) rfl) (x_op op_mulW ov_mul (x_var (i := 1) rfl (.inl rfl) rfl) (x_var (i := 4) rfl (.inl rfl) rfl))) (a_cons (x_var (i := 4) rfl (.inl rfl) rfl) ea_nil))) rfl (len_cons (len_cons (len_cons len_nil))) ⟨.inr ⟨_, _, rfl, rfl⟩, rfl, rfl, rfl⟩))) (ew_or (t_not (t_val (x_callG (n := 3) ⟨ok_law_is T, B.gd, (B.room.mono (by decide)), T.b_law_is, T.g_law_is, T.k_law_is⟩ (by exact B.pass) rfl (a_cons (x_gadd T rfl (B.room.mono (by decide)) (by exact B.pass) (x_var (i := 1) rfl (.inl rfl) rfl) (x_var (i := 2) rfl (.inl rfl) rfl)) (a_cons (x_op op_add ov_add (x_var (i := 3) rfl (.inl rfl) rfl) (x_op op_mulW ov_mul (x_var (i := 1) rfl (.inl rfl) rfl) (x_var (i := 4) rfl (.inl rfl) rfl))) (a_cons (x_var (i := 4) rfl (.inl rfl) rfl) ea_nil))) rfl (len_cons (len_cons (len_cons len_nil))) ⟨.inr ⟨_, _, rfl, rfl⟩, rfl, rfl, rfl⟩))) (ew_one (t_not (t_val (x_callG (n := 3) ⟨ok_law_is T, B.gd, (B.room.mono (by decide)), T.b_law_is, T.g_law_is, T.k_law_is⟩ (by exact B.pass) rfl (a_cons (x_gsub T rfl (B.room.mono (by decide)) (by exact B.pass) (x_var (i := 1) rfl (.inl rfl) rfl) (x_var (i := 2) rfl (.inl rfl) rfl)) (a_cons (x_op op_sub ov_sub (x_op op_mulW ov_mul (x_var (i := 1) rfl (.inl rfl) rfl) (x_var (i := 4) rfl (.inl rfl) rfl)) (x_var (i := 3) rfl (.inl rfl) rfl)) (a_cons (x_var (i := 4) rfl (.inl rfl) rfl) ea_nil))) rfl (len_cons (len_cons (len_cons len_nil))) ⟨.inr ⟨_, _, rfl, rfl⟩, rfl, rfl, rfl⟩))) (.inr rfl))))) (s_ret ex_bl) (s_guard (EW.et (ew_or (t_not (t_val (x_callG (n := 3) ⟨ok_law_is T, B.gd, (B.room.mono (by decide)), T.b_law_is, T.g_law_is, T.k_law_is⟩ (by exact B.pass) rfl (a_cons (x_gsub T rfl (B.room.mono (by decide)) (by exact B.pass) (x_var (i := 2) rfl (.inl rfl) rfl) (x_var (i := 1) rfl (.inl rfl) rfl)) (a_cons (x_op op_sub ov_sub (x_var (i := 3) rfl (.inl rfl) rfl) (x_op op_mulW ov_mul (x_var (i := 1) rfl (.inl rfl) rfl) (x_var (i := 4) rfl (.inl rfl) rfl))) (a_cons (x_var (i := 4) rfl (.inl rfl) rfl) ea_nil))) rfl (len_cons (len_cons (len_cons len_nil))) ⟨.inr ⟨_, _, rfl, rfl⟩, rfl, rfl, rfl⟩))) (ew_or (t_not (t_val (x_callG (n := 3) ⟨ok_law_is T, B.gd, (B.room.mono (by decide)), T.b_law_is, T.g_law_is, T.k_law_is⟩ (by exact B.pass) rfl (a_cons (x_gmul T rfl (B.room.mono (by decide)) (by exact B.pass) (x_var (i := 1) rfl (.inl rfl) rfl) (x_var (i := 2) rfl (.inl rfl) rfl)) (a_cons (x_op op_mulW ov_mul (x_var (i := 1) rfl (.inl rfl) rfl) (x_var (i := 3) rfl (.inl rfl) rfl)) (a_cons (x_var (i := 4) rfl (.inl rfl) rfl) ea_nil))) rfl (len_cons (len_cons (len_cons len_nil))) ⟨.inr ⟨_, _, rfl, rfl⟩, rfl, rfl, rfl⟩))) (ew_one (t_not (t_val (x_callG (n := 3) ⟨ok_law_is T, B.gd, (B.room.mono (by decide)), T.b_law_is, T.g_law_is, T.k_law_is⟩ (by exact B.pass) rfl (a_cons (x_gmul T rfl (B.room.mono (by decide)) (by exact B.pass) (x_var (i := 2) rfl (.inl rfl) rfl) (x_var (i := 1) rfl (.inl rfl) rfl)) (a_cons (x_op op_mulW ov_mul (x_var (i := 1) rfl (.inl rfl) rfl) (x_var (i := 3) rfl (.inl rfl) rfl)) (a_cons (x_var (i := 4) rfl (.inl rfl) rfl) ea_nil))) rfl (len_cons (len_cons (len_cons len_nil))) ⟨.inr ⟨_, _, rfl, rfl⟩, rfl, rfl, rfl⟩))) (.inr rfl))))) (s_ret ex_bl) (s_guard (EW.et (ew_and (t_cmp op_ne ov_ne (x_var (i := 1) rfl (.inl rfl) rfl) ex_int) (ew_one (t_not (t_val (x_callG (n := 3) ⟨ok_law_is T, B.gd, (B.room.mono (by decide)), T.b_law_is, T.g_law_is, T.k_law_is⟩ (by exact B.pass) rfl (a_cons (x_methP (k := 0) (ks := []) (p := [0, 1]) (ds := []) (dvs := []) (x_var (i := 2) rfl (.inl rfl) rfl) T.cl_Ratio T.M_Ratio_over ⟨ok_Ratio_over T, (B.room.mono (by decide)), bn_Ratio_over_2 T⟩ (by exact B.pass) (a_cons (x_var (i := 1) rfl (.inl rfl) rfl) ea_nil) ek_nil (fun _ => RepL.nil) ⟨.inr ⟨_, _, rfl, rfl⟩, rfl, rfl, rfl⟩ nf_Ratio_over (len_cons len_nil) len_nil (pick_len3 rfl)) (a_cons (x_var (i := 3) rfl (.inl rfl) rfl) (a_cons (x_op op_mulW ov_mul (x_var (i := 4) rfl (.inl rfl) rfl) (x_var (i := 1) rfl (.inl rfl) rfl)) ea_nil))) rfl (len_cons (len_cons (len_cons len_nil))) ⟨.inr ⟨_, _, rfl, rfl⟩, rfl, rfl, rfl⟩))) (.inl rfl)))) (s_ret ex_bl) (s_guard (EW.et (ew_or (t_not (t_val (x_callG (n := 3) ⟨ok_law_is T, B.gd, (B.room.mono (by decide)), T.b_law_is, T.g_law_is, T.k_law_is⟩ (by exact B.pass) rfl (a_cons (x_makeP (k := 0) (ks := []) (p := [0, 1]) (ds := [.int 1]) (dvs := [.int 1]) T.mk_Ratio ⟨ok_Ratio_init T, (B.room.mono (by decide)), bn_Ratio_init_2 T⟩ (B.room.mono (by decide)) (by exact B.pass) rfl T.g_Ratio (a_cons (x_var (i := 1) rfl (.inl rfl) rfl) ea_nil) ek_nil (fun _ => (RepL.cons rfl RepL.nil)) ⟨.inr ⟨_, _, rfl, rfl⟩, rfl, rfl, rfl⟩ (len_cons len_nil) len_nil (pick_len2 rfl)) (a_cons (x_var (i := 1) rfl (.inl rfl) rfl) (a_cons ex_int ea_nil))) rfl (len_cons (len_cons (len_cons len_nil))) ⟨.inr ⟨_, _, rfl, rfl⟩, rfl, rfl, rfl⟩))) (ew_one (t_cmp op_notBl ov_notB (x_geq_ T rfl (B.room.mono (by decide)) (by exact B.pass) (x_var (i := 2) rfl (.inl rfl) rfl) (x_var (i := 1) rfl (.inl rfl) rfl)) ex_bl) (.inr rfl)))) (s_ret ex_bl) (s_set (i := 5) S.nd rfl (.inl rfl) (x_op op_mulW ov_mul (x_op op_sub ov_sub (x_var (i := 3) rfl (.inl rfl) rfl) (x_op op_mulW ov_mul (x_var (i := 1) rfl (.inl rfl) rfl) (x_var (i := 4) rfl (.inl rfl) rfl))) (x_var (i := 4) rfl (.inl rfl) rfl)) (lt_of rfl) (fun v4_below => (s_ret (x_cmp op_eq ov_eq (x_grepr T rfl B.gd (B.room.mono (by decide)) (by exact B.pass) (a_cons (x_lst (a_cons (x_methP (k := 0) (ks := []) (p := [0, 1]) (ds := []) (dvs := []) (x_var (i := 2) rfl (.inl rfl) rfl) T.cl_Ratio T.M_Ratio_is_below ⟨ok_Ratio_is_below T, (B.room.mono (by decide)), bn_Ratio_is_below_2 T⟩ (by exact B.pass) (a_cons (x_var (i := 1) rfl (.inl rfl) rfl) ea_nil) ek_nil (fun _ => RepL.nil) ⟨.inr ⟨_, _, rfl, rfl⟩, rfl, rfl, rfl⟩ nf_Ratio_is_below (len_cons len_nil) len_nil (pick_len3 rfl)) (a_cons (x_methP (k := 0) (ks := []) (p := [0, 1]) (ds := []) (dvs := []) (x_var (i := 2) rfl (.inl rfl) rfl) T.cl_Ratio T.M_Ratio_is_at_most ⟨ok_Ratio_is_at_most T, (B.room.mono (by decide)), bn_Ratio_is_at_most_2 T⟩ (by exact B.pass) (a_cons (x_var (i := 1) rfl (.inl rfl) rfl) ea_nil) ek_nil (fun _ => RepL.nil) ⟨.inr ⟨_, _, rfl, rfl⟩, rfl, rfl, rfl⟩ nf_Ratio_is_at_most (len_cons len_nil) len_nil (pick_len3 rfl)) ea_nil))) ea_nil) rfl) (x_grepr T rfl B.gd (B.room.mono (by decide)) (by exact B.pass) (a_cons (x_lst (a_cons (x_cmp op_lt ov_lt (x_var (i := 5) rfl (.inl rfl) rfl) ex_int) (a_cons (x_cmp op_le ov_le (x_var (i := 5) rfl (.inl rfl) rfl) ex_int) ea_nil))) ea_nil) rfl)))))))))))⟩)
end Mir
namespace Mir
open PySem PySem.Spec PyProof.Rows L2
theorem sc_law_total_right : FnScope ["_law_pot_here", "_law_pairs", "_law_top_here", "_law_bottom", "_law_told", "_law_turn", "_law_whole_here", "_law_one"] ["_law_pot_here", "_law_pairs"] (defScope s_law_total_right) := ⟨rfl, rfl, rfl, by decide +kernel, rfl, by decide +kernel, by decide +kernel⟩
theorem ok_law_total_right {P : Program} {w : World} {K : PySem.W.Frag} {mg : Str → Option Value} {base : Heap} {A : Ads} (T : Txt K mg A) : FnG P w K mg base 10 A.f_law_total_right A.d_law_total_right ["_law_pot_here", "_law_pairs"] (spQ (gl K A) 1 (p1 m_law_total_right)) := by
  have S := sc_law_total_right
  exact fnSP2 (n := 1) (k := 9) T.F_law_total_right S rfl [.non] rfl fun cdv AA outer s H E B F0 a pot => (all1 fun a_pairs => ⟨_,
    (s_par3L' (i := 2) (j := 3) (k := 4) S.nd rfl rfl rfl (by decide) (by decide) (by decide) rfl rfl rfl ex_int ex_int (lt_of rfl) (lt_of rfl) (lt_of rfl) (fun v1_top_here v2_bottom => (s_forF (ρ := fun zs => [some (.pot zs), some (.val a_pairs), some (.val v1_top_here), some (.val v2_bottom), some (.mut []), none, none, none]) (xs := pot) (i := 5) (S := List Val × Val × Val × List Val) (m_law_total_right_l1 a_pairs (fun v4_s => (retP ((fl fun zs => (vAnd ((consR (cmM 0 (consR (.ok (.lst v4_s.2.2.2)) (.ok [])) (.ok []) [0, 1] [] (a2 m_Ratio_total)) (consR (.ok v4_s.2.1) (consR (.ok v4_s.2.2.1) (.ok [])))) >>= (a3 m_law_is)) ((consR (cmM 0 (.ok []) (consR ((consR (.ok (.lst v4_s.2.2.2)) (.ok [])) >>= bTuple) (.ok [])) [0, 1] [] (a2 m_Ratio_total)) (consR (.ok v4_s.2.1) (consR (.ok v4_s.2.2.1) (.ok [])))) >>= (a3 m_law_is)))) v4_s.1)))) (fun v4_s => [some (.pot v4_s.1), some (.val a_pairs), some (.val v4_s.2.1), some (.val v4_s.2.2.1), some (.mut v4_s.2.2.2), none, none, none]) (fun v3_pot => (v3_pot, v1_top_here, v2_bottom, [])) B.own rfl (eif_rng1 rfl T.g_range (efa_cons (ef_callP (n := 1) (k := 0) (potAt_p (fun _ => rfl) (fun _ _ => rfl) (fun _ => rfl)) ⟨ok_law_draw T, B.gd, (B.room.mono (by decide)), T.b_law_draw, T.g_law_draw, T.k_law_draw⟩ (by exact B.pass) rfl (p_var rfl (.inl rfl)) (efa_lift fun zs => (a_cons ex_int ea_nil)) rfl (flen_lift fun zs => (len_cons len_nil)) ⟨.inr ⟨_, _, rfl, rfl⟩, rfl, rfl, rfl⟩) (efa_lift fun zs => ea_nil))) (fun v3_pot => (.keep (.keep (.keep (.keep (.keep (.keep (.keep (.keep .nil))))))))) S.nd rfl (.inl rfl) (lt_of rfl) (fun v24_turn v6_xs v4_s => (sb_as (joinR (S := List Val × Val × Val × List Val) (fun v26_s => (m_law_total_right_l1 a_pairs (fun v4_s => (retP ((fl fun zs => (vAnd ((consR (cmM 0 (consR (.ok (.lst v4_s.2.2.2)) (.ok [])) (.ok []) [0, 1] [] (a2 m_Ratio_total)) (consR (.ok v4_s.2.1) (consR (.ok v4_s.2.2.1) (.ok [])))) >>= (a3 m_law_is)) ((consR (cmM 0 (.ok []) (consR ((consR (.ok (.lst v4_s.2.2.2)) (.ok [])) >>= bTuple) (.ok [])) [0, 1] [] (a2 m_Ratio_total)) (consR (.ok v4_s.2.1) (consR (.ok v4_s.2.2.1) (.ok [])))) >>= (a3 m_law_is)))) v4_s.1))) v6_xs (v26_s.1, v26_s.2.1, v26_s.2.2.1, v26_s.2.2.2))) fun v27_j => iteF ((ftst (fop seq (fcall (p1 m_law_draw) (fl fun zs => (consR (.ok (.int 3)) (.ok [])))) (fl fun zs => (.ok (.int 0))))) v4_s.1) (fun v25_pot => (bindF ((fcall (p0 m_law_whole) (fl fun zs => (.ok []))) v25_pot) fun v28_whole_here v29_pot => ((.ok v28_whole_here) >>= fun v32_x => appR v4_s.2.2.2 v32_x fun v30_told => ((op2 iadd (.ok v4_s.2.1) (op2 imul (.ok v28_whole_here) (.ok v4_s.2.2.1))) >>= fun v31_top_here => (v27_j (v29_pot, v31_top_here, v4_s.2.2.1, v30_told)))))) (fun v25_pot => (bindF ((fcall (p1 m_law_pick) (fl fun zs => (consR (.ok a_pairs) (.ok [])))) v25_pot) fun v33_one v34_pot => ((makeM 0 (consR (op2 vix (.ok v33_one) (.ok (.int 0))) (consR (op2 vix (.ok v33_one) (.ok (.int 1))) (.ok []))) (.ok []) [0, 1] [.int 1] (i2 m_Ratio_init)) >>= fun v38_x => appR v4_s.2.2.2 v38_x fun v35_told => ((op2 iadd (op2 imul (.ok v4_s.2.1) (op2 vix (.ok v33_one) (.ok (.int 1)))) (op2 imul (op2 vix (.ok v33_one) (.ok (.int 0))) (.ok v4_s.2.2.1))) >>= fun v36_top_here => (op2 imul (.ok v4_s.2.2.1) (op2 vix (.ok v33_one) (.ok (.int 1)))) >>= fun v37_bottom => (v27_j (v34_pot, v36_top_here, v37_bottom, v35_told))))))) (s_ifJ2F (S := List Val × Val × Val × List Val) (ρ := fun zs => [some (.pot zs), some (.val a_pairs), some (.val v4_s.2.1), some (.val v4_s.2.2.1), some (.mut v4_s.2.2.2), some (.val v24_turn), none, none]) (xs := v4_s.1) (fun v26_s => [some (.pot v26_s.1), some (.val a_pairs), some (.val v26_s.2.1), some (.val v26_s.2.2.1), some (.mut v26_s.2.2.2), some (.val v24_turn), none, none]) ([], .non, .non, []) (eft_cmp op_eq ov_eq (ef_callP (n := 1) (k := 0) (potAt_p (fun _ => rfl) (fun _ _ => rfl) (fun _ => rfl)) ⟨ok_law_draw T, B.gd, (B.room.mono (by decide)), T.b_law_draw, T.g_law_draw, T.k_law_draw⟩ (by exact B.pass) rfl (p_var rfl (.inl rfl)) (efa_lift fun zs => (a_cons ex_int ea_nil)) rfl (flen_lift fun zs => (len_cons len_nil)) ⟨.inr ⟨_, _, rfl, rfl⟩, rfl, rfl, rfl⟩) (ef_lift fun zs => ex_int)) (fun v25_pot => (s_setF (ρ := fun zs => [some (.pot zs), some (.val a_pairs), some (.val v4_s.2.1), some (.val v4_s.2.2.1), some (.mut v4_s.2.2.2), some (.val v24_turn), none, none]) (xs := v25_pot) (i := 6) S.nd rfl (.inl rfl) (ef_callP (n := 0) (k := 0) (potAt_p (fun _ => rfl) (fun _ _ => rfl) (fun _ => rfl)) ⟨ok_law_whole T, B.gd, (B.room.mono (by decide)), T.b_law_whole, T.g_law_whole, T.k_law_whole⟩ (by exact B.pass) rfl (p_var rfl (.inl rfl)) (efa_lift fun zs => ea_nil) rfl (flen_lift fun zs => len_nil) ⟨.inr ⟨_, _, rfl, rfl⟩, rfl, rfl, rfl⟩) (lt_of rfl) (fun v28_whole_here v29_pot => (s_append (i := 4) (p_var rfl (.inl rfl)) rfl (x_var (i := 6) rfl (.inl rfl) rfl) (fun v30_told => (s_set (i := 2) S.nd rfl (.inl rfl) (x_op op_add ov_add (x_var (i := 2) rfl (.inl rfl) rfl) (x_op op_mulW ov_mul (x_var (i := 6) rfl (.inl rfl) rfl) (x_var (i := 3) rfl (.inl rfl) rfl))) (lt_of rfl) (fun v31_top_here => (s_join (S := List Val × Val × Val × List Val) (v29_pot, v31_top_here, v4_s.2.2.1, v30_told) (.keep (.keep (.keep (.keep (.keep (.keep (.drop (.keep .nil)))))))))))))))) (fun v25_pot => (s_setF (ρ := fun zs => [some (.pot zs), some (.val a_pairs), some (.val v4_s.2.1), some (.val v4_s.2.2.1), some (.mut v4_s.2.2.2), some (.val v24_turn), none, none]) (xs := v25_pot) (i := 7) S.nd rfl (.inl rfl) (ef_callP (n := 1) (k := 0) (potAt_p (fun _ => rfl) (fun _ _ => rfl) (fun _ => rfl)) ⟨ok_law_pick T, B.gd, (B.room.mono (by decide)), T.b_law_pick, T.g_law_pick, T.k_law_pick⟩ (by exact B.pass) rfl (p_var rfl (.inl rfl)) (efa_lift fun zs => (a_cons (x_var (i := 1) rfl (.inl rfl) rfl) ea_nil)) rfl (flen_lift fun zs => (len_cons len_nil)) ⟨.inr ⟨_, _, rfl, rfl⟩, rfl, rfl, rfl⟩) (lt_of rfl) (fun v33_one v34_pot => (s_append (i := 4) (p_var rfl (.inl rfl)) rfl (x_makeP (k := 0) (ks := []) (p := [0, 1]) (ds := [.int 1]) (dvs := [.int 1]) T.mk_Ratio ⟨ok_Ratio_init T, (B.room.mono (by decide)), bn_Ratio_init_3 T⟩ (B.room.mono (by decide)) (by exact B.pass) rfl T.g_Ratio (a_cons (x_ix (x_var (i := 7) rfl (.inl rfl) rfl) ex_int rfl) (a_cons (x_ix (x_var (i := 7) rfl (.inl rfl) rfl) ex_int rfl) ea_nil)) ek_nil (fun _ => (RepL.cons rfl RepL.nil)) ⟨.inr ⟨_, _, rfl, rfl⟩, rfl, rfl, rfl⟩ (len_cons (len_cons len_nil)) len_nil (pick_len2 rfl)) (fun v35_told => (s_par2' (i := 2) (j := 3) S.nd rfl rfl (by decide) rfl rfl (x_op op_add ov_add (x_op op_mulW ov_mul (x_var (i := 2) rfl (.inl rfl) rfl) (x_ix (x_var (i := 7) rfl (.inl rfl) rfl) ex_int rfl)) (x_op op_mulW ov_mul (x_ix (x_var (i := 7) rfl (.inl rfl) rfl) ex_int rfl) (x_var (i := 3) rfl (.inl rfl) rfl))) (x_op op_mulW ov_mul (x_var (i := 3) rfl (.inl rfl) rfl) (x_ix (x_var (i := 7) rfl (.inl rfl) rfl) ex_int rfl)) (lt_of rfl) (lt_of rfl) (fun v36_top_here v37_bottom => (s_join (S := List Val × Val × Val × List Val) (v34_pot, v36_top_here, v37_bottom, v35_told) (.keep (.keep (.keep (.keep (.keep (.keep (.keep (.drop .nil)))))))))))))))) (fun v26_s => (s_turn (S := List Val × Val × Val × List Val) (v26_s.1, v26_s.2.1, v26_s.2.2.1, v26_s.2.2.2) (.keep (.keep (.keep (.keep (.keep (.drop (.keep (.keep .nil))))))))))))) (fun v4_s => (sb_freeze (i := 4) rfl (s_retP (ρ := fun zs => [some (.pot zs), some (.val a_pairs), some (.val v4_s.2.1), some (.val v4_s.2.2.1), some (.val (.lst v4_s.2.2.2)), none, none, none]) (k := 0) (xs := v4_s.1) (potAt_p (fun _ => rfl) (fun _ _ => rfl) (fun _ => rfl)) rfl (ef_lift fun zs => (ex_and (x_callG (n := 3) ⟨ok_law_is T, B.gd, (B.room.mono (by decide)), T.b_law_is, T.g_law_is, T.k_law_is⟩ (by exact B.pass) rfl (a_cons (x_cmethP (k := 0) (ks := []) (p := [0, 1]) (ds := []) (dvs := []) (ex_const (v := .ref A.c_Ratio) (pe_glob (v := .ref A.c_Ratio) rfl T.g_Ratio rfl) fun _ => rfl) T.r_Ratio T.c_Ratio_total ⟨ok_Ratio_total T, (B.room.mono (by decide)), bn_Ratio_total_2 T⟩ (by exact B.pass) (a_cons (x_var (i := 4) rfl (.inl rfl) rfl) ea_nil) ek_nil (fun _ => RepL.nil) ⟨.inr ⟨_, _, rfl, rfl⟩, rfl, rfl, rfl⟩ (len_cons len_nil) len_nil (pick_len3 rfl)) (a_cons (x_var (i := 2) rfl (.inl rfl) rfl) (a_cons (x_var (i := 3) rfl (.inl rfl) rfl) ea_nil))) rfl (len_cons (len_cons (len_cons len_nil))) ⟨.inr ⟨_, _, rfl, rfl⟩, rfl, rfl, rfl⟩) (ex_one (x_callG (n := 3) ⟨ok_law_is T, B.gd, (B.room.mono (by decide)), T.b_law_is, T.g_law_is, T.k_law_is⟩ (by exact B.pass) rfl (a_cons (x_cmethP (k := 0) (ks := ["numbers"]) (p := [0, 1]) (ds := []) (dvs := []) (ex_const (v := .ref A.c_Ratio) (pe_glob (v := .ref A.c_Ratio) rfl T.g_Ratio rfl) fun _ => rfl) T.r_Ratio T.c_Ratio_total ⟨ok_Ratio_total T, (B.room.mono (by decide)), bn_Ratio_total_1_numbers T⟩ (by exact B.pass) ea_nil (ek_cons (x_ty call_tuple_of cv_tuple rfl T.g_tuple bt_tuple (a_cons (x_var (i := 4) rfl (.inl rfl) rfl) ea_nil)) ek_nil) (fun _ => RepL.nil) ⟨.inl ⟨rfl, rfl⟩, rfl, rfl, rfl⟩ len_nil (len_cons len_nil) (pick_len3 rfl)) (a_cons (x_var (i := 2) rfl (.inl rfl) rfl) (a_cons (x_var (i := 3) rfl (.inl rfl) rfl) ea_nil))) rfl (len_cons (len_cons (len_cons len_nil))) ⟨.inr ⟨_, _, rfl, rfl⟩, rfl, rfl, rfl⟩))))))))))⟩)
end Mir
namespace Mir
open PySem PySem.Spec PyProof.Rows L2
theorem sc_law : FnScope ["_law_script", "_law_pot_here", "_law_pairs", "_law_whole_here", "_law_one", "_law_other"] ["_law_script"] (defScope s_law) := ⟨rfl, rfl, rfl, by decide +kernel, rfl, by decide +kernel, by decide +kernel⟩
theorem ok_law {P : Program} {w : World} {K : PySem.W.Frag} {mg : Str → Option Value} {base : Heap} {A : Ads} (T : Txt K mg A) : FnG P w K mg base 11 A.f_law A.d_law ["_law_script"] (spM (gl K A) 1 (a1 m_law)) := by
  have S := sc_law
  exact fnSG2 (k := 10) T.F_law S [.non] rfl fun cdv AA outer s H E B F0 => (all1 fun a_script => ⟨_,
    (sb_setN (n := 2) (i := 1) ⟨ok_law_pot T, B.gd, (B.room.mono (by decide)), T.b_law_pot, T.g_law_pot, T.k_law_pot⟩ (by exact B.pass) rfl (a_cons (x_var (i := 0) rfl (.inl rfl) rfl) (a_cons ex_int ea_nil)) rfl (len_cons (len_cons len_nil)) ⟨.inr ⟨_, _, rfl, rfl⟩, rfl, rfl, rfl⟩ (fun h => ps_set S.nd rfl (.inl rfl) h) (lt_of rfl) (fun v1_pot_here => (s_setMF (ρ := fun zs => [some (.val a_script), some (.mut zs), none, none, none, none]) (xs := v1_pot_here) (i := 2) S.nd rfl (.inl rfl) (efa_cons (ef_callP (n := 0) (k := 1) (potAt_m (fun _ => rfl) (fun _ _ => rfl)) ⟨ok_law_pair T, B.gd, (B.room.mono (by decide)), T.b_law_pair, T.g_law_pair, T.k_law_pair⟩ (by exact B.pass) rfl (p_var rfl (.inl rfl)) (efa_lift fun zs => ea_nil) rfl (flen_lift fun zs => len_nil) ⟨.inr ⟨_, _, rfl, rfl⟩, rfl, rfl, rfl⟩) (efa_cons (ef_callP (n := 0) (k := 1) (potAt_m (fun _ => rfl) (fun _ _ => rfl)) ⟨ok_law_pair T, B.gd, (B.room.mono (by decide)), T.b_law_pair, T.g_law_pair, T.k_law_pair⟩ (by exact B.pass) rfl (p_var rfl (.inl rfl)) (efa_lift fun zs => ea_nil) rfl (flen_lift fun zs => len_nil) ⟨.inr ⟨_, _, rfl, rfl⟩, rfl, rfl, rfl⟩) (efa_lift fun zs => (a_cons (x_tup (a_cons ex_int (a_cons ex_int ea_nil))) ea_nil)))) (lt_of rfl) (fun v2_pairs v3_pot => (s_append (i := 2) (p_var rfl (.inl rfl)) rfl (x_tup (a_cons (x_op op_mulW ov_mul (x_ix (x_ixM (i := 2) (p_var rfl (.inl rfl)) rfl ex_int) ex_int rfl) ex_int) (a_cons (x_op op_mulW ov_mul (x_ix (x_ixM (i := 2) (p_var rfl (.inl rfl)) rfl ex_int) ex_int rfl) ex_int) ea_nil))) (fun v4_pairs => (s_append (i := 2) (p_var rfl (.inl rfl)) rfl (x_tup (a_cons (x_op op_sub ov_sub ex_int (x_ix (x_ixM (i := 2) (p_var rfl (.inl rfl)) rfl ex_int) ex_int rfl)) (a_cons (x_op op_sub ov_sub ex_int (x_ix (x_ixM (i := 2) (p_var rfl (.inl rfl)) rfl ex_int) ex_int rfl)) ea_nil))) (fun v5_pairs => (s_setF (ρ := fun zs => [some (.val a_script), some (.mut zs), some (.mut v5_pairs), none, none, none]) (xs := v3_pot) (i := 3) S.nd rfl (.inl rfl) (ef_callP (n := 0) (k := 1) (potAt_m (fun _ => rfl) (fun _ _ => rfl)) ⟨ok_law_whole T, B.gd, (B.room.mono (by decide)), T.b_law_whole, T.g_law_whole, T.k_law_whole⟩ (by exact B.pass) rfl (p_var rfl (.inl rfl)) (efa_lift fun zs => ea_nil) rfl (flen_lift fun zs => len_nil) ⟨.inr ⟨_, _, rfl, rfl⟩, rfl, rfl, rfl⟩) (lt_of rfl) (fun v6_whole_here v7_pot => (sb_freeze (i := 2) rfl (s_for (i := 4) (S := Unit) (m_law_l1 (.lst v5_pairs) v6_whole_here (fun v8_s => (retF ((fand (fl fun zs => ((consR (op2 vix (.ok (.lst v5_pairs)) (.ok (.int 2))) (consR (.ok v6_whole_here) (.ok []))) >>= (a2 m_law_whole_right))) (fand (fl fun zs => ((consR (op2 vix (.ok (.lst v5_pairs)) (.ok (.int 0))) (consR (.ok (.int 0)) (.ok []))) >>= (a2 m_law_whole_right))) (fcall (p1 m_law_total_right) (fl fun zs => (consR (.ok (.lst v5_pairs)) (.ok [])))))) v7_pot)))) (fun v8_s => [some (.val a_script), some (.mut v7_pot), some (.val (.lst v5_pairs)), some (.val v6_whole_here), none, none]) () B.own rfl (ei_seq (x_slice rfl (x_var (i := 2) rfl (.inl rfl) rfl) ep_none (ep_some ex_int)) rfl) (.keep (.keep (.keep (.keep (.keep (.keep .nil)))))) S.nd rfl (.inr rfl) (lt_of rfl) (fun v16_one v11_xs v8_s => (sb_as (iteR (rOr (notB (tst ((consR (asL (((.ok (.lst v5_pairs)) >>= items) >>= mapR (fun v17_other => ((consR (.ok v16_one) (consR (.ok v17_other) (.ok []))) >>= (a2 m_law_two_right))))) (.ok [])) >>= bAll))) (notB (tst ((consR (.ok v16_one) (consR (.ok v6_whole_here) (.ok []))) >>= (a2 m_law_whole_right))))) (.ok (.bl false)) (m_law_l1 (.lst v5_pairs) v6_whole_here (fun v8_s => (retF ((fand (fl fun zs => ((consR (op2 vix (.ok (.lst v5_pairs)) (.ok (.int 2))) (consR (.ok v6_whole_here) (.ok []))) >>= (a2 m_law_whole_right))) (fand (fl fun zs => ((consR (op2 vix (.ok (.lst v5_pairs)) (.ok (.int 0))) (consR (.ok (.int 0)) (.ok []))) >>= (a2 m_law_whole_right))) (fcall (p1 m_law_total_right) (fl fun zs => (consR (.ok (.lst v5_pairs)) (.ok [])))))) v7_pot))) v11_xs ())) (s_guard (EW.et (ew_or (t_not (t_val (x_blt (cr_all rfl) cv_all rfl T.g_all bt_all (a_cons (x_lc (lc1 (own := [("_law_other", 5)]) (i := 5) rfl S.nd (blkOk_by (N := ["_law_script", "_law_pot_here", "_law_pairs", "_law_whole_here", "_law_one", "_law_other"]) (sc := defScope s_law) (by decide +kernel)) (ei_seq (x_var (i := 2) rfl (.inl rfl) rfl) rfl) (Weak.refl _) rfl rfl (lt_of rfl) (by decide) (fun _ _ _ _ _ => .inl rfl) (fun _ _ _ _ _ => .inr rfl) (fun s H C cl fp v17_other => (x_callG (n := 2) ⟨ok_law_two_right T, B.gd, (B.room.mono (by decide)), T.b_law_two_right, T.g_law_two_right, T.k_law_two_right⟩ (by exact passL) rfl (a_cons (x_var (i := 4) rfl (.inr (.inl rfl)) rfl) (a_cons (x_var (i := 5) rfl (.inl rfl) rfl) ea_nil)) rfl (len_cons (len_cons len_nil)) ⟨.inr ⟨_, _, rfl, rfl⟩, rfl, rfl, rfl⟩)))) ea_nil)))) (ew_one (t_not (t_val (x_callG (n := 2) ⟨ok_law_whole_right T, B.gd, (B.room.mono (by decide)), T.b_law_whole_right, T.g_law_whole_right, T.k_law_whole_right⟩ (by exact B.pass) rfl (a_cons (x_var (i := 4) rfl (.inr (.inl rfl)) rfl) (a_cons (x_var (i := 3) rfl (.inl rfl) rfl) ea_nil)) rfl (len_cons (len_cons len_nil)) ⟨.inr ⟨_, _, rfl, rfl⟩, rfl, rfl, rfl⟩))) (.inr rfl)))) (s_ret ex_bl) (s_turn (S := Unit) () (.keep (.keep (.keep (.keep (.drop (.keep .nil)))))))))) (fun v8_s => (s_retF (ρ := fun zs => [some (.val a_script), some (.mut zs), some (.val (.lst v5_pairs)), some (.val v6_whole_here), none, none]) (xs := v7_pot) (ef_and (ef_lift fun zs => (x_callG (n := 2) ⟨ok_law_whole_right T, B.gd, (B.room.mono (by decide)), T.b_law_whole_right, T.g_law_whole_right, T.k_law_whole_right⟩ (by exact B.pass) rfl (a_cons (x_ix (x_var (i := 2) rfl (.inl rfl) rfl) ex_int rfl) (a_cons (x_var (i := 3) rfl (.inl rfl) rfl) ea_nil)) rfl (len_cons (len_cons len_nil)) ⟨.inr ⟨_, _, rfl, rfl⟩, rfl, rfl, rfl⟩)) (ef_and (ef_lift fun zs => (x_callG (n := 2) ⟨ok_law_whole_right T, B.gd, (B.room.mono (by decide)), T.b_law_whole_right, T.g_law_whole_right, T.k_law_whole_right⟩ (by exact B.pass) rfl (a_cons (x_ix (x_var (i := 2) rfl (.inl rfl) rfl) ex_int rfl) (a_cons ex_int ea_nil)) rfl (len_cons (len_cons len_nil)) ⟨.inr ⟨_, _, rfl, rfl⟩, rfl, rfl, rfl⟩)) (ef_one (ef_callP (n := 1) (k := 1) (potAt_m (fun _ => rfl) (fun _ _ => rfl)) ⟨ok_law_total_right T, B.gd, (B.room.mono (by decide)), T.b_law_total_right, T.g_law_total_right, T.k_law_total_right⟩ (by exact B.pass) rfl (p_var rfl (.inl rfl)) (efa_lift fun zs => (a_cons (x_var (i := 2) rfl (.inl rfl) rfl) ea_nil)) rfl (flen_lift fun zs => (len_cons len_nil)) ⟨.inr ⟨_, _, rfl, rfl⟩, rfl, rfl, rfl⟩))))))))))))))))))⟩)
end Mir
namespace Mir
open PySem PySem.Spec PyProof.Rows L2
theorem all_mk (LT : ∀ ns : List Int, ns.length ≤ 63 → m_law (.lst (ns.map Val.int)) = .ok (.bl true)) {P : Program} {w : World} {K : PySem.W.Frag} {h : Heap} {mg : Str → Option Value} {fa : Addr} (X : K.In h) (G : h.Ns mainGlobals mg) (hfa : mg "law" = some (.ref fa))
    {C_Ratio : Addr} {f_is_integer : Addr} {od_is_integer an_is_integer : Option Addr} {sl_is_integer : Array (Option Value)} {oc_is_integer kV_is_integer dc_is_integer pm_is_integer cd_is_integer ct_is_integer : Value} {f_Ratio_init : Addr} {od_Ratio_init an_Ratio_init : Option Addr} {sl_Ratio_init : Array (Option Value)} {oc_Ratio_init kV_Ratio_init dc_Ratio_init pm_Ratio_init cd_Ratio_init ct_Ratio_init : Value} {t_Ratio_init : Addr} {n_Ratio_init : Nat} {tk_Ratio_init : Tok} {o_Ratio_init : Obj} {f_Ratio_top : Addr} {p_Ratio_top : Addr} {od_Ratio_top an_Ratio_top : Option Addr} {sl_Ratio_top : Array (Option Value)} {oc_Ratio_top kV_Ratio_top dc_Ratio_top pm_Ratio_top cd_Ratio_top ct_Ratio_top : Value} {f_Ratio_bottom : Addr} {p_Ratio_bottom : Addr} {od_Ratio_bottom an_Ratio_bottom : Option Addr} {sl_Ratio_bottom : Array (Option Value)} {oc_Ratio_bottom kV_Ratio_bottom dc_Ratio_bottom pm_Ratio_bottom cd_Ratio_bottom ct_Ratio_bottom : Value} {f_Ratio_sign : Addr} {p_Ratio_sign : Addr} {od_Ratio_sign an_Ratio_sign : Option Addr} {sl_Ratio_sign : Array (Option Value)} {oc_Ratio_sign kV_Ratio_sign dc_Ratio_sign pm_Ratio_sign cd_Ratio_sign ct_Ratio_sign : Value} {f_Ratio_is_whole : Addr} {p_Ratio_is_whole : Addr} {od_Ratio_is_whole an_Ratio_is_whole : Option Addr} {sl_Ratio_is_whole : Array (Option Value)} {oc_Ratio_is_whole kV_Ratio_is_whole dc_Ratio_is_whole pm_Ratio_is_whole cd_Ratio_is_whole ct_Ratio_is_whole : Value} {f_Ratio_add : Addr} {od_Ratio_add an_Ratio_add : Option Addr} {sl_Ratio_add : Array (Option Value)} {oc_Ratio_add kV_Ratio_add dc_Ratio_add pm_Ratio_add cd_Ratio_add ct_Ratio_add : Value} {f_Ratio_radd : Addr} {od_Ratio_radd an_Ratio_radd : Option Addr} {sl_Ratio_radd : Array (Option Value)} {oc_Ratio_radd kV_Ratio_radd dc_Ratio_radd pm_Ratio_radd cd_Ratio_radd ct_Ratio_radd : Value} {f_Ratio_sub : Addr} {od_Ratio_sub an_Ratio_sub : Option Addr} {sl_Ratio_sub : Array (Option Value)} {oc_Ratio_sub kV_Ratio_sub dc_Ratio_sub pm_Ratio_sub cd_Ratio_sub ct_Ratio_sub : Value} {f_Ratio_rsub : Addr} {od_Ratio_rsub an_Ratio_rsub : Option Addr} {sl_Ratio_rsub : Array (Option Value)} {oc_Ratio_rsub kV_Ratio_rsub dc_Ratio_rsub pm_Ratio_rsub cd_Ratio_rsub ct_Ratio_rsub : Value} {f_Ratio_mul : Addr} {od_Ratio_mul an_Ratio_mul : Option Addr} {sl_Ratio_mul : Array (Option Value)} {oc_Ratio_mul kV_Ratio_mul dc_Ratio_mul pm_Ratio_mul cd_Ratio_mul ct_Ratio_mul : Value} {f_Ratio_rmul : Addr} {od_Ratio_rmul an_Ratio_rmul : Option Addr} {sl_Ratio_rmul : Array (Option Value)} {oc_Ratio_rmul kV_Ratio_rmul dc_Ratio_rmul pm_Ratio_rmul cd_Ratio_rmul ct_Ratio_rmul : Value} {f_Ratio_neg : Addr} {od_Ratio_neg an_Ratio_neg : Option Addr} {sl_Ratio_neg : Array (Option Value)} {oc_Ratio_neg kV_Ratio_neg dc_Ratio_neg pm_Ratio_neg cd_Ratio_neg ct_Ratio_neg : Value} {f_Ratio_over : Addr} {od_Ratio_over an_Ratio_over : Option Addr} {sl_Ratio_over : Array (Option Value)} {oc_Ratio_over kV_Ratio_over dc_Ratio_over pm_Ratio_over cd_Ratio_over ct_Ratio_over : Value} {f_Ratio_size : Addr} {od_Ratio_size an_Ratio_size : Option Addr} {sl_Ratio_size : Array (Option Value)} {oc_Ratio_size kV_Ratio_size dc_Ratio_size pm_Ratio_size cd_Ratio_size ct_Ratio_size : Value} {f_Ratio_is_below : Addr} {od_Ratio_is_below an_Ratio_is_below : Option Addr} {sl_Ratio_is_below : Array (Option Value)} {oc_Ratio_is_below kV_Ratio_is_below dc_Ratio_is_below pm_Ratio_is_below cd_Ratio_is_below ct_Ratio_is_below : Value} {f_Ratio_is_at_most : Addr} {od_Ratio_is_at_most an_Ratio_is_at_most : Option Addr} {sl_Ratio_is_at_most : Array (Option Value)} {oc_Ratio_is_at_most kV_Ratio_is_at_most dc_Ratio_is_at_most pm_Ratio_is_at_most cd_Ratio_is_at_most ct_Ratio_is_at_most : Value} {f_Ratio_eq : Addr} {od_Ratio_eq an_Ratio_eq : Option Addr} {sl_Ratio_eq : Array (Option Value)} {oc_Ratio_eq kV_Ratio_eq dc_Ratio_eq pm_Ratio_eq cd_Ratio_eq ct_Ratio_eq : Value} {f_Ratio_str : Addr} {od_Ratio_str an_Ratio_str : Option Addr} {sl_Ratio_str : Array (Option Value)} {oc_Ratio_str kV_Ratio_str dc_Ratio_str pm_Ratio_str cd_Ratio_str ct_Ratio_str : Value} {f_Ratio_repr : Addr} {od_Ratio_repr an_Ratio_repr : Option Addr} {sl_Ratio_repr : Array (Option Value)} {oc_Ratio_repr kV_Ratio_repr dc_Ratio_repr pm_Ratio_repr cd_Ratio_repr ct_Ratio_repr : Value} {f_Ratio_total : Addr} {p_Ratio_total : Addr} {od_Ratio_total an_Ratio_total : Option Addr} {sl_Ratio_total : Array (Option Value)} {oc_Ratio_total kV_Ratio_total dc_Ratio_total pm_Ratio_total cd_Ratio_total ct_Ratio_total : Value} {f_terms : Addr} {od_terms an_terms : Option Addr} {sl_terms : Array (Option Value)} {oc_terms kV_terms dc_terms pm_terms cd_terms ct_terms : Value} {f_law_pot : Addr} {od_law_pot an_law_pot : Option Addr} {sl_law_pot : Array (Option Value)} {oc_law_pot kV_law_pot dc_law_pot pm_law_pot cd_law_pot ct_law_pot : Value} {f_law_draw : Addr} {od_law_draw an_law_draw : Option Addr} {sl_law_draw : Array (Option Value)} {oc_law_draw kV_law_draw dc_law_draw pm_law_draw cd_law_draw ct_law_draw : Value} {f_law_pick : Addr} {od_law_pick an_law_pick : Option Addr} {sl_law_pick : Array (Option Value)} {oc_law_pick kV_law_pick dc_law_pick pm_law_pick cd_law_pick ct_law_pick : Value} {f_law_top : Addr} {od_law_top an_law_top : Option Addr} {sl_law_top : Array (Option Value)} {oc_law_top kV_law_top dc_law_top pm_law_top cd_law_top ct_law_top : Value} {f_law_whole : Addr} {od_law_whole an_law_whole : Option Addr} {sl_law_whole : Array (Option Value)} {oc_law_whole kV_law_whole dc_law_whole pm_law_whole cd_law_whole ct_law_whole : Value} {f_law_pair : Addr} {od_law_pair an_law_pair : Option Addr} {sl_law_pair : Array (Option Value)} {oc_law_pair kV_law_pair dc_law_pair pm_law_pair cd_law_pair ct_law_pair : Value} {f_law_common : Addr} {od_law_common an_law_common : Option Addr} {sl_law_common : Array (Option Value)} {oc_law_common kV_law_common dc_law_common pm_law_common cd_law_common ct_law_common : Value} {f_law_is : Addr} {od_law_is an_law_is : Option Addr} {sl_law_is : Array (Option Value)} {oc_law_is kV_law_is dc_law_is pm_law_is cd_law_is ct_law_is : Value} {f_law_two_right : Addr} {od_law_two_right an_law_two_right : Option Addr} {sl_law_two_right : Array (Option Value)} {oc_law_two_right kV_law_two_right dc_law_two_right pm_law_two_right cd_law_two_right ct_law_two_right : Value} {f_law_whole_right : Addr} {od_law_whole_right an_law_whole_right : Option Addr} {sl_law_whole_right : Array (Option Value)} {oc_law_whole_right kV_law_whole_right dc_law_whole_right pm_law_whole_right cd_law_whole_right ct_law_whole_right : Value} {f_law_total_right : Addr} {od_law_total_right an_law_total_right : Option Addr} {sl_law_total_right : Array (Option Value)} {oc_law_total_right kV_law_total_right dc_law_total_right pm_law_total_right cd_law_total_right ct_law_total_right : Value} {f_law : Addr} {od_law an_law : Option Addr} {sl_law : Array (Option Value)} {oc_law kV_law dc_law pm_law cd_law ct_law : Value} {rs_Ratio_top : List Value} {rs_Ratio_bottom : List Value} {rs_Ratio_sign : List Value} {rs_Ratio_is_whole : List Value} {rs_Ratio_total : List Value} {q_add qr_add : Option Value} {q_sub qr_sub : Option Value} {q_mul qr_mul : Option Value}
    (aC_Ratio : PySem.W.nsIn K mainGlobals "Ratio" = some (some (.ref C_Ratio)))
    (a_is_integer : PySem.W.nsIn K mainGlobals "is_integer" = some (some (.ref f_is_integer)))
    (l_is_integer : K.lookup f_is_integer = some ⟨oc_is_integer, od_is_integer, .func (PySem.W.fnOf "is_integer" "is_integer" (defArgs s_is_integer) (defBody s_is_integer) (defScope s_is_integer) .none kV_is_integer dc_is_integer pm_is_integer an_is_integer cd_is_integer ct_is_integer), sl_is_integer⟩)
    (c_is_integer : PySem.W.codeIn K cd_is_integer "is_integer" = true)
    (k_is_integer : PySem.W.keepIn K (.ref f_is_integer) = true)
    (a_Ratio_init : PySem.W.findIn K (.ref C_Ratio) "__init__" = some (some (.ref f_Ratio_init)))
    (i_Ratio_init : PySem.W.isFn K (.ref f_Ratio_init) = true)
    (l_Ratio_init : K.lookup f_Ratio_init = some ⟨oc_Ratio_init, od_Ratio_init, .func (PySem.W.fnOf "__init__" "Ratio.__init__" (defArgs s_Ratio_init) (defBody s_Ratio_init) (defScope s_Ratio_init) (.ref t_Ratio_init) kV_Ratio_init dc_Ratio_init pm_Ratio_init an_Ratio_init cd_Ratio_init ct_Ratio_init), sl_Ratio_init⟩)
    (c_Ratio_init : PySem.W.codeIn K cd_Ratio_init "Ratio.__init__" = true)
    (k_Ratio_init : PySem.W.keepIn K (.ref f_Ratio_init) = true)
    (t1_Ratio_init : K.lookup t_Ratio_init = some o_Ratio_init)
    (a_Ratio_top : PySem.W.findIn K (.ref C_Ratio) "top" = some (some (.ref p_Ratio_top)))
    (r_Ratio_top : PySem.W.recIn K p_Ratio_top "property" = some (.ref f_Ratio_top :: rs_Ratio_top))
    (x_Ratio_top : PySem.W.specialIn K (.ref p_Ratio_top) "__get__" = some (some (.builtin "property.__get__")))
    (y_Ratio_top : PySem.W.takesIn K (.ref p_Ratio_top) = some true)
    (l_Ratio_top : K.lookup f_Ratio_top = some ⟨oc_Ratio_top, od_Ratio_top, .func (PySem.W.fnOf "top" "Ratio.top" (defArgs s_Ratio_top) (defBody s_Ratio_top) (defScope s_Ratio_top) .none kV_Ratio_top dc_Ratio_top pm_Ratio_top an_Ratio_top cd_Ratio_top ct_Ratio_top), sl_Ratio_top⟩)
    (c_Ratio_top : PySem.W.codeIn K cd_Ratio_top "Ratio.top" = true)
    (k_Ratio_top : PySem.W.keepIn K (.ref f_Ratio_top) = true)
    (a_Ratio_bottom : PySem.W.findIn K (.ref C_Ratio) "bottom" = some (some (.ref p_Ratio_bottom)))
    (r_Ratio_bottom : PySem.W.recIn K p_Ratio_bottom "property" = some (.ref f_Ratio_bottom :: rs_Ratio_bottom))
    (x_Ratio_bottom : PySem.W.specialIn K (.ref p_Ratio_bottom) "__get__" = some (some (.builtin "property.__get__")))
    (y_Ratio_bottom : PySem.W.takesIn K (.ref p_Ratio_bottom) = some true)
    (l_Ratio_bottom : K.lookup f_Ratio_bottom = some ⟨oc_Ratio_bottom, od_Ratio_bottom, .func (PySem.W.fnOf "bottom" "Ratio.bottom" (defArgs s_Ratio_bottom) (defBody s_Ratio_bottom) (defScope s_Ratio_bottom) .none kV_Ratio_bottom dc_Ratio_bottom pm_Ratio_bottom an_Ratio_bottom cd_Ratio_bottom ct_Ratio_bottom), sl_Ratio_bottom⟩)
    (c_Ratio_bottom : PySem.W.codeIn K cd_Ratio_bottom "Ratio.bottom" = true)
    (k_Ratio_bottom : PySem.W.keepIn K (.ref f_Ratio_bottom) = true)
    (a_Ratio_sign : PySem.W.findIn K (.ref C_Ratio) "sign" = some (some (.ref p_Ratio_sign)))
    (r_Ratio_sign : PySem.W.recIn K p_Ratio_sign "property" = some (.ref f_Ratio_sign :: rs_Ratio_sign))
    (x_Ratio_sign : PySem.W.specialIn K (.ref p_Ratio_sign) "__get__" = some (some (.builtin "property.__get__")))
    (y_Ratio_sign : PySem.W.takesIn K (.ref p_Ratio_sign) = some true)
    (l_Ratio_sign : K.lookup f_Ratio_sign = some ⟨oc_Ratio_sign, od_Ratio_sign, .func (PySem.W.fnOf "sign" "Ratio.sign" (defArgs s_Ratio_sign) (defBody s_Ratio_sign) (defScope s_Ratio_sign) .none kV_Ratio_sign dc_Ratio_sign pm_Ratio_sign an_Ratio_sign cd_Ratio_sign ct_Ratio_sign), sl_Ratio_sign⟩)
    (c_Ratio_sign : PySem.W.codeIn K cd_Ratio_sign "Ratio.sign" = true)
    (k_Ratio_sign : PySem.W.keepIn K (.ref f_Ratio_sign) = true)
    (a_Ratio_is_whole : PySem.W.findIn K (.ref C_Ratio) "is_whole" = some (some (.ref p_Ratio_is_whole)))
    (r_Ratio_is_whole : PySem.W.recIn K p_Ratio_is_whole "property" = some (.ref f_Ratio_is_whole :: rs_Ratio_is_whole))
    (x_Ratio_is_whole : PySem.W.specialIn K (.ref p_Ratio_is_whole) "__get__" = some (some (.builtin "property.__get__")))
    (y_Ratio_is_whole : PySem.W.takesIn K (.ref p_Ratio_is_whole) = some true)
    (l_Ratio_is_whole : K.lookup f_Ratio_is_whole = some ⟨oc_Ratio_is_whole, od_Ratio_is_whole, .func (PySem.W.fnOf "is_whole" "Ratio.is_whole" (defArgs s_Ratio_is_whole) (defBody s_Ratio_is_whole) (defScope s_Ratio_is_whole) .none kV_Ratio_is_whole dc_Ratio_is_whole pm_Ratio_is_whole an_Ratio_is_whole cd_Ratio_is_whole ct_Ratio_is_whole), sl_Ratio_is_whole⟩)
    (c_Ratio_is_whole : PySem.W.codeIn K cd_Ratio_is_whole "Ratio.is_whole" = true)
    (k_Ratio_is_whole : PySem.W.keepIn K (.ref f_Ratio_is_whole) = true)
    (a_Ratio_add : PySem.W.findIn K (.ref C_Ratio) "__add__" = some (some (.ref f_Ratio_add)))
    (i_Ratio_add : PySem.W.isFn K (.ref f_Ratio_add) = true)
    (l_Ratio_add : K.lookup f_Ratio_add = some ⟨oc_Ratio_add, od_Ratio_add, .func (PySem.W.fnOf "__add__" "Ratio.__add__" (defArgs s_Ratio_add) (defBody s_Ratio_add) (defScope s_Ratio_add) .none kV_Ratio_add dc_Ratio_add pm_Ratio_add an_Ratio_add cd_Ratio_add ct_Ratio_add), sl_Ratio_add⟩)
    (c_Ratio_add : PySem.W.codeIn K cd_Ratio_add "Ratio.__add__" = true)
    (k_Ratio_add : PySem.W.keepIn K (.ref f_Ratio_add) = true)
    (a_Ratio_radd : PySem.W.findIn K (.ref C_Ratio) "__radd__" = some (some (.ref f_Ratio_radd)))
    (i_Ratio_radd : PySem.W.isFn K (.ref f_Ratio_radd) = true)
    (l_Ratio_radd : K.lookup f_Ratio_radd = some ⟨oc_Ratio_radd, od_Ratio_radd, .func (PySem.W.fnOf "__radd__" "Ratio.__radd__" (defArgs s_Ratio_radd) (defBody s_Ratio_radd) (defScope s_Ratio_radd) .none kV_Ratio_radd dc_Ratio_radd pm_Ratio_radd an_Ratio_radd cd_Ratio_radd ct_Ratio_radd), sl_Ratio_radd⟩)
    (c_Ratio_radd : PySem.W.codeIn K cd_Ratio_radd "Ratio.__radd__" = true)
    (k_Ratio_radd : PySem.W.keepIn K (.ref f_Ratio_radd) = true)
    (a_Ratio_sub : PySem.W.findIn K (.ref C_Ratio) "__sub__" = some (some (.ref f_Ratio_sub)))
    (i_Ratio_sub : PySem.W.isFn K (.ref f_Ratio_sub) = true)
    (l_Ratio_sub : K.lookup f_Ratio_sub = some ⟨oc_Ratio_sub, od_Ratio_sub, .func (PySem.W.fnOf "__sub__" "Ratio.__sub__" (defArgs s_Ratio_sub) (defBody s_Ratio_sub) (defScope s_Ratio_sub) .none kV_Ratio_sub dc_Ratio_sub pm_Ratio_sub an_Ratio_sub cd_Ratio_sub ct_Ratio_sub), sl_Ratio_sub⟩)
    (c_Ratio_sub : PySem.W.codeIn K cd_Ratio_sub "Ratio.__sub__" = true)
    (k_Ratio_sub : PySem.W.keepIn K (.ref f_Ratio_sub) = true)
    (a_Ratio_rsub : PySem.W.findIn K (.ref C_Ratio) "__rsub__" = some (some (.ref f_Ratio_rsub)))
    (i_Ratio_rsub : PySem.W.isFn K (.ref f_Ratio_rsub) = true)
    (l_Ratio_rsub : K.lookup f_Ratio_rsub = some ⟨oc_Ratio_rsub, od_Ratio_rsub, .func (PySem.W.fnOf "__rsub__" "Ratio.__rsub__" (defArgs s_Ratio_rsub) (defBody s_Ratio_rsub) (defScope s_Ratio_rsub) .none kV_Ratio_rsub dc_Ratio_rsub pm_Ratio_rsub an_Ratio_rsub cd_Ratio_rsub ct_Ratio_rsub), sl_Ratio_rsub⟩)
    (c_Ratio_rsub : PySem.W.codeIn K cd_Ratio_rsub "Ratio.__rsub__" = true)
    (k_Ratio_rsub : PySem.W.keepIn K (.ref f_Ratio_rsub) = true)
    (a_Ratio_mul : PySem.W.findIn K (.ref C_Ratio) "__mul__" = some (some (.ref f_Ratio_mul)))
    (i_Ratio_mul : PySem.W.isFn K (.ref f_Ratio_mul) = true)
    (l_Ratio_mul : K.lookup f_Ratio_mul = some ⟨oc_Ratio_mul, od_Ratio_mul, .func (PySem.W.fnOf "__mul__" "Ratio.__mul__" (defArgs s_Ratio_mul) (defBody s_Ratio_mul) (defScope s_Ratio_mul) .none kV_Ratio_mul dc_Ratio_mul pm_Ratio_mul an_Ratio_mul cd_Ratio_mul ct_Ratio_mul), sl_Ratio_mul⟩)
    (c_Ratio_mul : PySem.W.codeIn K cd_Ratio_mul "Ratio.__mul__" = true)
    (k_Ratio_mul : PySem.W.keepIn K (.ref f_Ratio_mul) = true)
    (a_Ratio_rmul : PySem.W.findIn K (.ref C_Ratio) "__rmul__" = some (some (.ref f_Ratio_rmul)))
    (i_Ratio_rmul : PySem.W.isFn K (.ref f_Ratio_rmul) = true)
    (l_Ratio_rmul : K.lookup f_Ratio_rmul = some ⟨oc_Ratio_rmul, od_Ratio_rmul, .func (PySem.W.fnOf "__rmul__" "Ratio.__rmul__" (defArgs s_Ratio_rmul) (defBody s_Ratio_rmul) (defScope s_Ratio_rmul) .none kV_Ratio_rmul dc_Ratio_rmul pm_Ratio_rmul an_Ratio_rmul cd_Ratio_rmul ct_Ratio_rmul), sl_Ratio_rmul⟩)
    (c_Ratio_rmul : PySem.W.codeIn K cd_Ratio_rmul "Ratio.__rmul__" = true)
    (k_Ratio_rmul : PySem.W.keepIn K (.ref f_Ratio_rmul) = true)
    (a_Ratio_neg : PySem.W.findIn K (.ref C_Ratio) "__neg__" = some (some (.ref f_Ratio_neg)))
    (i_Ratio_neg : PySem.W.isFn K (.ref f_Ratio_neg) = true)
    (l_Ratio_neg : K.lookup f_Ratio_neg = some ⟨oc_Ratio_neg, od_Ratio_neg, .func (PySem.W.fnOf "__neg__" "Ratio.__neg__" (defArgs s_Ratio_neg) (defBody s_Ratio_neg) (defScope s_Ratio_neg) .none kV_Ratio_neg dc_Ratio_neg pm_Ratio_neg an_Ratio_neg cd_Ratio_neg ct_Ratio_neg), sl_Ratio_neg⟩)
    (c_Ratio_neg : PySem.W.codeIn K cd_Ratio_neg "Ratio.__neg__" = true)
    (k_Ratio_neg : PySem.W.keepIn K (.ref f_Ratio_neg) = true)
    (a_Ratio_over : PySem.W.findIn K (.ref C_Ratio) "over" = some (some (.ref f_Ratio_over)))
    (i_Ratio_over : PySem.W.isFn K (.ref f_Ratio_over) = true)
    (l_Ratio_over : K.lookup f_Ratio_over = some ⟨oc_Ratio_over, od_Ratio_over, .func (PySem.W.fnOf "over" "Ratio.over" (defArgs s_Ratio_over) (defBody s_Ratio_over) (defScope s_Ratio_over) .none kV_Ratio_over dc_Ratio_over pm_Ratio_over an_Ratio_over cd_Ratio_over ct_Ratio_over), sl_Ratio_over⟩)
    (c_Ratio_over : PySem.W.codeIn K cd_Ratio_over "Ratio.over" = true)
    (k_Ratio_over : PySem.W.keepIn K (.ref f_Ratio_over) = true)
    (a_Ratio_size : PySem.W.findIn K (.ref C_Ratio) "size" = some (some (.ref f_Ratio_size)))
    (i_Ratio_size : PySem.W.isFn K (.ref f_Ratio_size) = true)
    (l_Ratio_size : K.lookup f_Ratio_size = some ⟨oc_Ratio_size, od_Ratio_size, .func (PySem.W.fnOf "size" "Ratio.size" (defArgs s_Ratio_size) (defBody s_Ratio_size) (defScope s_Ratio_size) .none kV_Ratio_size dc_Ratio_size pm_Ratio_size an_Ratio_size cd_Ratio_size ct_Ratio_size), sl_Ratio_size⟩)
    (c_Ratio_size : PySem.W.codeIn K cd_Ratio_size "Ratio.size" = true)
    (k_Ratio_size : PySem.W.keepIn K (.ref f_Ratio_size) = true)
    (a_Ratio_is_below : PySem.W.findIn K (.ref C_Ratio) "is_below" = some (some (.ref f_Ratio_is_below)))
    (i_Ratio_is_below : PySem.W.isFn K (.ref f_Ratio_is_below) = true)
    (l_Ratio_is_below : K.lookup f_Ratio_is_below = some ⟨oc_Ratio_is_below, od_Ratio_is_below, .func (PySem.W.fnOf "is_below" "Ratio.is_below" (defArgs s_Ratio_is_below) (defBody s_Ratio_is_below) (defScope s_Ratio_is_below) .none kV_Ratio_is_below dc_Ratio_is_below pm_Ratio_is_below an_Ratio_is_below cd_Ratio_is_below ct_Ratio_is_below), sl_Ratio_is_below⟩)
    (c_Ratio_is_below : PySem.W.codeIn K cd_Ratio_is_below "Ratio.is_below" = true)
    (k_Ratio_is_below : PySem.W.keepIn K (.ref f_Ratio_is_below) = true)
    (a_Ratio_is_at_most : PySem.W.findIn K (.ref C_Ratio) "is_at_most" = some (some (.ref f_Ratio_is_at_most)))
    (i_Ratio_is_at_most : PySem.W.isFn K (.ref f_Ratio_is_at_most) = true)
    (l_Ratio_is_at_most : K.lookup f_Ratio_is_at_most = some ⟨oc_Ratio_is_at_most, od_Ratio_is_at_most, .func (PySem.W.fnOf "is_at_most" "Ratio.is_at_most" (defArgs s_Ratio_is_at_most) (defBody s_Ratio_is_at_most) (defScope s_Ratio_is_at_most) .none kV_Ratio_is_at_most dc_Ratio_is_at_most pm_Ratio_is_at_most an_Ratio_is_at_most cd_Ratio_is_at_most ct_Ratio_is_at_most), sl_Ratio_is_at_most⟩)
    (c_Ratio_is_at_most : PySem.W.codeIn K cd_Ratio_is_at_most "Ratio.is_at_most" = true)
    (k_Ratio_is_at_most : PySem.W.keepIn K (.ref f_Ratio_is_at_most) = true)
    (a_Ratio_eq : PySem.W.findIn K (.ref C_Ratio) "__eq__" = some (some (.ref f_Ratio_eq)))
    (i_Ratio_eq : PySem.W.isFn K (.ref f_Ratio_eq) = true)
    (l_Ratio_eq : K.lookup f_Ratio_eq = some ⟨oc_Ratio_eq, od_Ratio_eq, .func (PySem.W.fnOf "__eq__" "Ratio.__eq__" (defArgs s_Ratio_eq) (defBody s_Ratio_eq) (defScope s_Ratio_eq) .none kV_Ratio_eq dc_Ratio_eq pm_Ratio_eq an_Ratio_eq cd_Ratio_eq ct_Ratio_eq), sl_Ratio_eq⟩)
    (c_Ratio_eq : PySem.W.codeIn K cd_Ratio_eq "Ratio.__eq__" = true)
    (k_Ratio_eq : PySem.W.keepIn K (.ref f_Ratio_eq) = true)
    (a_Ratio_str : PySem.W.findIn K (.ref C_Ratio) "__str__" = some (some (.ref f_Ratio_str)))
    (i_Ratio_str : PySem.W.isFn K (.ref f_Ratio_str) = true)
    (l_Ratio_str : K.lookup f_Ratio_str = some ⟨oc_Ratio_str, od_Ratio_str, .func (PySem.W.fnOf "__str__" "Ratio.__str__" (defArgs s_Ratio_str) (defBody s_Ratio_str) (defScope s_Ratio_str) .none kV_Ratio_str dc_Ratio_str pm_Ratio_str an_Ratio_str cd_Ratio_str ct_Ratio_str), sl_Ratio_str⟩)
    (c_Ratio_str : PySem.W.codeIn K cd_Ratio_str "Ratio.__str__" = true)
    (k_Ratio_str : PySem.W.keepIn K (.ref f_Ratio_str) = true)
    (a_Ratio_repr : PySem.W.findIn K (.ref C_Ratio) "__repr__" = some (some (.ref f_Ratio_repr)))
    (i_Ratio_repr : PySem.W.isFn K (.ref f_Ratio_repr) = true)
    (l_Ratio_repr : K.lookup f_Ratio_repr = some ⟨oc_Ratio_repr, od_Ratio_repr, .func (PySem.W.fnOf "__repr__" "Ratio.__repr__" (defArgs s_Ratio_repr) (defBody s_Ratio_repr) (defScope s_Ratio_repr) .none kV_Ratio_repr dc_Ratio_repr pm_Ratio_repr an_Ratio_repr cd_Ratio_repr ct_Ratio_repr), sl_Ratio_repr⟩)
    (c_Ratio_repr : PySem.W.codeIn K cd_Ratio_repr "Ratio.__repr__" = true)
    (k_Ratio_repr : PySem.W.keepIn K (.ref f_Ratio_repr) = true)
    (a_Ratio_total : PySem.W.findCls K (.ref C_Ratio) (.type "type") "total" = some (.get (.builtin "classmethod.__get__") (.ref p_Ratio_total) .none (.ref C_Ratio)))
    (r_Ratio_total : PySem.W.recIn K p_Ratio_total "classmethod" = some (.ref f_Ratio_total :: rs_Ratio_total))
    (z_Ratio_total : PySem.W.fnIn K f_Ratio_total = true)
    (l_Ratio_total : K.lookup f_Ratio_total = some ⟨oc_Ratio_total, od_Ratio_total, .func (PySem.W.fnOf "total" "Ratio.total" (defArgs s_Ratio_total) (defBody s_Ratio_total) (defScope s_Ratio_total) .none kV_Ratio_total dc_Ratio_total pm_Ratio_total an_Ratio_total cd_Ratio_total ct_Ratio_total), sl_Ratio_total⟩)
    (c_Ratio_total : PySem.W.codeIn K cd_Ratio_total "Ratio.total" = true)
    (k_Ratio_total : PySem.W.keepIn K (.ref f_Ratio_total) = true)
    (a_terms : PySem.W.nsIn K mainGlobals "_terms" = some (some (.ref f_terms)))
    (l_terms : K.lookup f_terms = some ⟨oc_terms, od_terms, .func (PySem.W.fnOf "_terms" "_terms" (defArgs s_terms) (defBody s_terms) (defScope s_terms) .none kV_terms dc_terms pm_terms an_terms cd_terms ct_terms), sl_terms⟩)
    (c_terms : PySem.W.codeIn K cd_terms "_terms" = true)
    (k_terms : PySem.W.keepIn K (.ref f_terms) = true)
    (a_law_pot : PySem.W.nsIn K mainGlobals "_law_pot" = some (some (.ref f_law_pot)))
    (l_law_pot : K.lookup f_law_pot = some ⟨oc_law_pot, od_law_pot, .func (PySem.W.fnOf "_law_pot" "_law_pot" (defArgs s_law_pot) (defBody s_law_pot) (defScope s_law_pot) .none kV_law_pot dc_law_pot pm_law_pot an_law_pot cd_law_pot ct_law_pot), sl_law_pot⟩)
    (c_law_pot : PySem.W.codeIn K cd_law_pot "_law_pot" = true)
    (k_law_pot : PySem.W.keepIn K (.ref f_law_pot) = true)
    (a_law_draw : PySem.W.nsIn K mainGlobals "_law_draw" = some (some (.ref f_law_draw)))
    (l_law_draw : K.lookup f_law_draw = some ⟨oc_law_draw, od_law_draw, .func (PySem.W.fnOf "_law_draw" "_law_draw" (defArgs s_law_draw) (defBody s_law_draw) (defScope s_law_draw) .none kV_law_draw dc_law_draw pm_law_draw an_law_draw cd_law_draw ct_law_draw), sl_law_draw⟩)
    (c_law_draw : PySem.W.codeIn K cd_law_draw "_law_draw" = true)
    (k_law_draw : PySem.W.keepIn K (.ref f_law_draw) = true)
    (a_law_pick : PySem.W.nsIn K mainGlobals "_law_pick" = some (some (.ref f_law_pick)))
    (l_law_pick : K.lookup f_law_pick = some ⟨oc_law_pick, od_law_pick, .func (PySem.W.fnOf "_law_pick" "_law_pick" (defArgs s_law_pick) (defBody s_law_pick) (defScope s_law_pick) .none kV_law_pick dc_law_pick pm_law_pick an_law_pick cd_law_pick ct_law_pick), sl_law_pick⟩)
    (c_law_pick : PySem.W.codeIn K cd_law_pick "_law_pick" = true)
    (k_law_pick : PySem.W.keepIn K (.ref f_law_pick) = true)
    (a_law_top : PySem.W.nsIn K mainGlobals "_law_top" = some (some (.ref f_law_top)))
    (l_law_top : K.lookup f_law_top = some ⟨oc_law_top, od_law_top, .func (PySem.W.fnOf "_law_top" "_law_top" (defArgs s_law_top) (defBody s_law_top) (defScope s_law_top) .none kV_law_top dc_law_top pm_law_top an_law_top cd_law_top ct_law_top), sl_law_top⟩)
    (c_law_top : PySem.W.codeIn K cd_law_top "_law_top" = true)
    (k_law_top : PySem.W.keepIn K (.ref f_law_top) = true)
    (a_law_whole : PySem.W.nsIn K mainGlobals "_law_whole" = some (some (.ref f_law_whole)))
    (l_law_whole : K.lookup f_law_whole = some ⟨oc_law_whole, od_law_whole, .func (PySem.W.fnOf "_law_whole" "_law_whole" (defArgs s_law_whole) (defBody s_law_whole) (defScope s_law_whole) .none kV_law_whole dc_law_whole pm_law_whole an_law_whole cd_law_whole ct_law_whole), sl_law_whole⟩)
    (c_law_whole : PySem.W.codeIn K cd_law_whole "_law_whole" = true)
    (k_law_whole : PySem.W.keepIn K (.ref f_law_whole) = true)
    (a_law_pair : PySem.W.nsIn K mainGlobals "_law_pair" = some (some (.ref f_law_pair)))
    (l_law_pair : K.lookup f_law_pair = some ⟨oc_law_pair, od_law_pair, .func (PySem.W.fnOf "_law_pair" "_law_pair" (defArgs s_law_pair) (defBody s_law_pair) (defScope s_law_pair) .none kV_law_pair dc_law_pair pm_law_pair an_law_pair cd_law_pair ct_law_pair), sl_law_pair⟩)
    (c_law_pair : PySem.W.codeIn K cd_law_pair "_law_pair" = true)
    (k_law_pair : PySem.W.keepIn K (.ref f_law_pair) = true)
    (a_law_common : PySem.W.nsIn K mainGlobals "_law_common" = some (some (.ref f_law_common)))
    (l_law_common : K.lookup f_law_common = some ⟨oc_law_common, od_law_common, .func (PySem.W.fnOf "_law_common" "_law_common" (defArgs s_law_common) (defBody s_law_common) (defScope s_law_common) .none kV_law_common dc_law_common pm_law_common an_law_common cd_law_common ct_law_common), sl_law_common⟩)
    (c_law_common : PySem.W.codeIn K cd_law_common "_law_common" = true)
    (k_law_common : PySem.W.keepIn K (.ref f_law_common) = true)
    (a_law_is : PySem.W.nsIn K mainGlobals "_law_is" = some (some (.ref f_law_is)))
    (l_law_is : K.lookup f_law_is = some ⟨oc_law_is, od_law_is, .func (PySem.W.fnOf "_law_is" "_law_is" (defArgs s_law_is) (defBody s_law_is) (defScope s_law_is) .none kV_law_is dc_law_is pm_law_is an_law_is cd_law_is ct_law_is), sl_law_is⟩)
    (c_law_is : PySem.W.codeIn K cd_law_is "_law_is" = true)
    (k_law_is : PySem.W.keepIn K (.ref f_law_is) = true)
    (a_law_two_right : PySem.W.nsIn K mainGlobals "_law_two_right" = some (some (.ref f_law_two_right)))
    (l_law_two_right : K.lookup f_law_two_right = some ⟨oc_law_two_right, od_law_two_right, .func (PySem.W.fnOf "_law_two_right" "_law_two_right" (defArgs s_law_two_right) (defBody s_law_two_right) (defScope s_law_two_right) .none kV_law_two_right dc_law_two_right pm_law_two_right an_law_two_right cd_law_two_right ct_law_two_right), sl_law_two_right⟩)
    (c_law_two_right : PySem.W.codeIn K cd_law_two_right "_law_two_right" = true)
    (k_law_two_right : PySem.W.keepIn K (.ref f_law_two_right) = true)
    (a_law_whole_right : PySem.W.nsIn K mainGlobals "_law_whole_right" = some (some (.ref f_law_whole_right)))
    (l_law_whole_right : K.lookup f_law_whole_right = some ⟨oc_law_whole_right, od_law_whole_right, .func (PySem.W.fnOf "_law_whole_right" "_law_whole_right" (defArgs s_law_whole_right) (defBody s_law_whole_right) (defScope s_law_whole_right) .none kV_law_whole_right dc_law_whole_right pm_law_whole_right an_law_whole_right cd_law_whole_right ct_law_whole_right), sl_law_whole_right⟩)
    (c_law_whole_right : PySem.W.codeIn K cd_law_whole_right "_law_whole_right" = true)
    (k_law_whole_right : PySem.W.keepIn K (.ref f_law_whole_right) = true)
    (a_law_total_right : PySem.W.nsIn K mainGlobals "_law_total_right" = some (some (.ref f_law_total_right)))
    (l_law_total_right : K.lookup f_law_total_right = some ⟨oc_law_total_right, od_law_total_right, .func (PySem.W.fnOf "_law_total_right" "_law_total_right" (defArgs s_law_total_right) (defBody s_law_total_right) (defScope s_law_total_right) .none kV_law_total_right dc_law_total_right pm_law_total_right an_law_total_right cd_law_total_right ct_law_total_right), sl_law_total_right⟩)
    (c_law_total_right : PySem.W.codeIn K cd_law_total_right "_law_total_right" = true)
    (k_law_total_right : PySem.W.keepIn K (.ref f_law_total_right) = true)
    (a_law : PySem.W.nsIn K mainGlobals "law" = some (some (.ref f_law)))
    (l_law : K.lookup f_law = some ⟨oc_law, od_law, .func (PySem.W.fnOf "law" "law" (defArgs s_law) (defBody s_law) (defScope s_law) .none kV_law dc_law pm_law an_law cd_law ct_law), sl_law⟩)
    (c_law : PySem.W.codeIn K cd_law "law" = true)
    (k_law : PySem.W.keepIn K (.ref f_law) = true)
    (pg_Ratio : PySem.W.plainGet K C_Ratio Str.empty = true)
    (hd_Ratio : PySem.W.hasDictIn K C_Ratio = true)
    (po_Ratio : PySem.W.plainOver K C_Ratio = true)
    (sa_Ratio : PySem.W.findIn K (.ref C_Ratio) "__setattr__" = some (some (.builtin "object.__setattr__")))
    (mk_Ratio : PySem.W.makesIn K C_Ratio = true)
    (kc_Ratio : PySem.W.keepIn K (.ref C_Ratio) = true)
    (ha_Ratio : PySem.W.findIn K (.ref C_Ratio) "__class__" = some (some (.builtin "object.__class__")))
    (hm_Ratio : PySem.W.mroIn K C_Ratio (.type "object") = some true)
    (bint_Ratio : PySem.W.subIn K (.ref C_Ratio) (.type "int") = some false)
    (bbool_Ratio : PySem.W.subIn K (.ref C_Ratio) (.type "bool") = some false)
    (blist_Ratio : PySem.W.subIn K (.ref C_Ratio) (.type "list") = some false)
    (btuple_Ratio : PySem.W.subIn K (.ref C_Ratio) (.type "tuple") = some false)
    (bstr_Ratio : PySem.W.subIn K (.ref C_Ratio) (.type "str") = some false)
    (nNoneType_Ratio : PySem.W.subIn K (.type "NoneType") (.ref C_Ratio) = some false)
    (nbool_Ratio : PySem.W.subIn K (.type "bool") (.ref C_Ratio) = some false)
    (nint_Ratio : PySem.W.subIn K (.type "int") (.ref C_Ratio) = some false)
    (nstr_Ratio : PySem.W.subIn K (.type "str") (.ref C_Ratio) = some false)
    (nlist_Ratio : PySem.W.subIn K (.type "list") (.ref C_Ratio) = some false)
    (ntuple_Ratio : PySem.W.subIn K (.type "tuple") (.ref C_Ratio) = some false)
    (ic_Ratio : PySem.W.isClsIn K C_Ratio = true)
    (ty_Ratio : PySem.W.typeIn K (.ref C_Ratio) = some (.type "type"))
    (nf_Ratio__top : PySem.W.findIn K (.ref C_Ratio) "_top" = some none)
    (nf_Ratio__bottom : PySem.W.findIn K (.ref C_Ratio) "_bottom" = some none)
    (rd_Ratio : PySem.W.readsIn K C_Ratio (.type "type") = true)
    (ga_Ratio : PySem.W.specialIn K (.ref C_Ratio) "__getattribute__" = some (some (.builtin "type.__getattribute__")))
    (sf_Ratio : PySem.W.selfFirst K C_Ratio = true)
    (s1_Ratio : PySem.W.subIn K (.type "int") (.ref C_Ratio) = some false)
    (s2_Ratio : PySem.W.subIn K (.ref C_Ratio) (.type "int") = some false)
    (q1_add : PySem.W.findIn K (.type "int") "__add__" = some q_add)
    (q2_add : PySem.W.findIn K (.type "int") "__radd__" = some qr_add)
    (q1_sub : PySem.W.findIn K (.type "int") "__sub__" = some q_sub)
    (q2_sub : PySem.W.findIn K (.type "int") "__rsub__" = some qr_sub)
    (q1_mul : PySem.W.findIn K (.type "int") "__mul__" = some q_mul)
    (q2_mul : PySem.W.findIn K (.type "int") "__rmul__" = some qr_mul)
    (ne_Ratio : PySem.W.findIn K (.ref C_Ratio) "__ne__" = some (some (.builtin "object.__ne__")))
    (so_Ratio : PySem.W.subIn K (.ref C_Ratio) (.type "object") = some true)
    (oc_get : PySem.W.specialIn K (.builtin "object.__class__") "__get__" = some (some (.builtin "getset_descriptor.__get__")))
    (oc_tak : PySem.W.takesIn K (.builtin "object.__class__") = some true)
    (u_abs : PySem.W.nsIn K mainGlobals "abs" = some none)
    (u_all : PySem.W.nsIn K mainGlobals "all" = some none)
    (u_bool : PySem.W.nsIn K mainGlobals "bool" = some none)
    (u_divmod : PySem.W.nsIn K mainGlobals "divmod" = some none)
    (u_gcd : PySem.W.nsIn K mainGlobals "gcd" = some (some (.builtin "math.gcd")))
    (u_int : PySem.W.nsIn K mainGlobals "int" = some none)
    (u_isinstance : PySem.W.nsIn K mainGlobals "isinstance" = some none)
    (u_lcm : PySem.W.nsIn K mainGlobals "lcm" = some (some (.builtin "math.lcm")))
    (u_len : PySem.W.nsIn K mainGlobals "len" = some none)
    (u_list : PySem.W.nsIn K mainGlobals "list" = some none)
    (u_max : PySem.W.nsIn K mainGlobals "max" = some none)
    (u_range : PySem.W.nsIn K mainGlobals "range" = some none)
    (u_repr : PySem.W.nsIn K mainGlobals "repr" = some none)
    (u_str : PySem.W.nsIn K mainGlobals "str" = some none)
    (u_sum : PySem.W.nsIn K mainGlobals "sum" = some none)
    (u_tuple : PySem.W.nsIn K mainGlobals "tuple" = some none)
    (o1_Ratio_init : o_Ratio_init.data = .seq ([.int 1 tk_Ratio_init] : List Value).toArray n_Ratio_init) :
    ∃ fd : FuncData, (∀ (s : Shared) (v : Value), BindsTo s fd ⟨[v], []⟩ [("_law_script", v)]) ∧ ∀ base : Heap, K.In base → base.Ns mainGlobals mg → FnG P w K mg base 11 fa fd ["_law_script"] (spLaw K) := by
  have e := hfa.symm.trans (PySem.W.mg_of X G a_law)
  have e2 : fa = f_law := by
    cases e
    rfl
  rw [e2]
  have F_is_integer : FnD K "is_integer" "is_integer" s_is_integer [] f_is_integer (PySem.W.fnOf "is_integer" "is_integer" (defArgs s_is_integer) (defBody s_is_integer) (defScope s_is_integer) .none kV_is_integer dc_is_integer pm_is_integer an_is_integer cd_is_integer ct_is_integer) := fd0 l_is_integer c_is_integer k_is_integer
  have F_Ratio_init : FnD K "__init__" "Ratio.__init__" s_Ratio_init [.int 1] f_Ratio_init (PySem.W.fnOf "__init__" "Ratio.__init__" (defArgs s_Ratio_init) (defBody s_Ratio_init) (defScope s_Ratio_init) (.ref t_Ratio_init) kV_Ratio_init dc_Ratio_init pm_Ratio_init an_Ratio_init cd_Ratio_init ct_Ratio_init) := fd1 l_Ratio_init c_Ratio_init k_Ratio_init t1_Ratio_init o1_Ratio_init (.cons ⟨_, rfl⟩ .nil) (by simp)
  have F_Ratio_top : FnD K "top" "Ratio.top" s_Ratio_top [] f_Ratio_top (PySem.W.fnOf "top" "Ratio.top" (defArgs s_Ratio_top) (defBody s_Ratio_top) (defScope s_Ratio_top) .none kV_Ratio_top dc_Ratio_top pm_Ratio_top an_Ratio_top cd_Ratio_top ct_Ratio_top) := fd0 l_Ratio_top c_Ratio_top k_Ratio_top
  have F_Ratio_bottom : FnD K "bottom" "Ratio.bottom" s_Ratio_bottom [] f_Ratio_bottom (PySem.W.fnOf "bottom" "Ratio.bottom" (defArgs s_Ratio_bottom) (defBody s_Ratio_bottom) (defScope s_Ratio_bottom) .none kV_Ratio_bottom dc_Ratio_bottom pm_Ratio_bottom an_Ratio_bottom cd_Ratio_bottom ct_Ratio_bottom) := fd0 l_Ratio_bottom c_Ratio_bottom k_Ratio_bottom
  have F_Ratio_sign : FnD K "sign" "Ratio.sign" s_Ratio_sign [] f_Ratio_sign (PySem.W.fnOf "sign" "Ratio.sign" (defArgs s_Ratio_sign) (defBody s_Ratio_sign) (defScope s_Ratio_sign) .none kV_Ratio_sign dc_Ratio_sign pm_Ratio_sign an_Ratio_sign cd_Ratio_sign ct_Ratio_sign) := fd0 l_Ratio_sign c_Ratio_sign k_Ratio_sign
  have F_Ratio_is_whole : FnD K "is_whole" "Ratio.is_whole" s_Ratio_is_whole [] f_Ratio_is_whole (PySem.W.fnOf "is_whole" "Ratio.is_whole" (defArgs s_Ratio_is_whole) (defBody s_Ratio_is_whole) (defScope s_Ratio_is_whole) .none kV_Ratio_is_whole dc_Ratio_is_whole pm_Ratio_is_whole an_Ratio_is_whole cd_Ratio_is_whole ct_Ratio_is_whole) := fd0 l_Ratio_is_whole c_Ratio_is_whole k_Ratio_is_whole
  have F_Ratio_add : FnD K "__add__" "Ratio.__add__" s_Ratio_add [] f_Ratio_add (PySem.W.fnOf "__add__" "Ratio.__add__" (defArgs s_Ratio_add) (defBody s_Ratio_add) (defScope s_Ratio_add) .none kV_Ratio_add dc_Ratio_add pm_Ratio_add an_Ratio_add cd_Ratio_add ct_Ratio_add) := fd0 l_Ratio_add c_Ratio_add k_Ratio_add
  have F_Ratio_radd : FnD K "__radd__" "Ratio.__radd__" s_Ratio_radd [] f_Ratio_radd (PySem.W.fnOf "__radd__" "Ratio.__radd__" (defArgs s_Ratio_radd) (defBody s_Ratio_radd) (defScope s_Ratio_radd) .none kV_Ratio_radd dc_Ratio_radd pm_Ratio_radd an_Ratio_radd cd_Ratio_radd ct_Ratio_radd) := fd0 l_Ratio_radd c_Ratio_radd k_Ratio_radd
  have F_Ratio_sub : FnD K "__sub__" "Ratio.__sub__" s_Ratio_sub [] f_Ratio_sub (PySem.W.fnOf "__sub__" "Ratio.__sub__" (defArgs s_Ratio_sub) (defBody s_Ratio_sub) (defScope s_Ratio_sub) .none kV_Ratio_sub dc_Ratio_sub pm_Ratio_sub an_Ratio_sub cd_Ratio_sub ct_Ratio_sub) := fd0 l_Ratio_sub c_Ratio_sub k_Ratio_sub
  have F_Ratio_rsub : FnD K "__rsub__" "Ratio.__rsub__" s_Ratio_rsub [] f_Ratio_rsub (PySem.W.fnOf "__rsub__" "Ratio.__rsub__" (defArgs s_Ratio_rsub) (defBody s_Ratio_rsub) (defScope s_Ratio_rsub) .none kV_Ratio_rsub dc_Ratio_rsub pm_Ratio_rsub an_Ratio_rsub cd_Ratio_rsub ct_Ratio_rsub) := fd0 l_Ratio_rsub c_Ratio_rsub k_Ratio_rsub
  have F_Ratio_mul : FnD K "__mul__" "Ratio.__mul__" s_Ratio_mul [] f_Ratio_mul (PySem.W.fnOf "__mul__" "Ratio.__mul__" (defArgs s_Ratio_mul) (defBody s_Ratio_mul) (defScope s_Ratio_mul) .none kV_Ratio_mul dc_Ratio_mul pm_Ratio_mul an_Ratio_mul cd_Ratio_mul ct_Ratio_mul) := fd0 l_Ratio_mul c_Ratio_mul k_Ratio_mul
  have F_Ratio_rmul : FnD K "__rmul__" "Ratio.__rmul__" s_Ratio_rmul [] f_Ratio_rmul (PySem.W.fnOf "__rmul__" "Ratio.__rmul__" (defArgs s_Ratio_rmul) (defBody s_Ratio_rmul) (defScope s_Ratio_rmul) .none kV_Ratio_rmul dc_Ratio_rmul pm_Ratio_rmul an_Ratio_rmul cd_Ratio_rmul ct_Ratio_rmul) := fd0 l_Ratio_rmul c_Ratio_rmul k_Ratio_rmul
  have F_Ratio_neg : FnD K "__neg__" "Ratio.__neg__" s_Ratio_neg [] f_Ratio_neg (PySem.W.fnOf "__neg__" "Ratio.__neg__" (defArgs s_Ratio_neg) (defBody s_Ratio_neg) (defScope s_Ratio_neg) .none kV_Ratio_neg dc_Ratio_neg pm_Ratio_neg an_Ratio_neg cd_Ratio_neg ct_Ratio_neg) := fd0 l_Ratio_neg c_Ratio_neg k_Ratio_neg
  have F_Ratio_over : FnD K "over" "Ratio.over" s_Ratio_over [] f_Ratio_over (PySem.W.fnOf "over" "Ratio.over" (defArgs s_Ratio_over) (defBody s_Ratio_over) (defScope s_Ratio_over) .none kV_Ratio_over dc_Ratio_over pm_Ratio_over an_Ratio_over cd_Ratio_over ct_Ratio_over) := fd0 l_Ratio_over c_Ratio_over k_Ratio_over
  have F_Ratio_size : FnD K "size" "Ratio.size" s_Ratio_size [] f_Ratio_size (PySem.W.fnOf "size" "Ratio.size" (defArgs s_Ratio_size) (defBody s_Ratio_size) (defScope s_Ratio_size) .none kV_Ratio_size dc_Ratio_size pm_Ratio_size an_Ratio_size cd_Ratio_size ct_Ratio_size) := fd0 l_Ratio_size c_Ratio_size k_Ratio_size
  have F_Ratio_is_below : FnD K "is_below" "Ratio.is_below" s_Ratio_is_below [] f_Ratio_is_below (PySem.W.fnOf "is_below" "Ratio.is_below" (defArgs s_Ratio_is_below) (defBody s_Ratio_is_below) (defScope s_Ratio_is_below) .none kV_Ratio_is_below dc_Ratio_is_below pm_Ratio_is_below an_Ratio_is_below cd_Ratio_is_below ct_Ratio_is_below) := fd0 l_Ratio_is_below c_Ratio_is_below k_Ratio_is_below
  have F_Ratio_is_at_most : FnD K "is_at_most" "Ratio.is_at_most" s_Ratio_is_at_most [] f_Ratio_is_at_most (PySem.W.fnOf "is_at_most" "Ratio.is_at_most" (defArgs s_Ratio_is_at_most) (defBody s_Ratio_is_at_most) (defScope s_Ratio_is_at_most) .none kV_Ratio_is_at_most dc_Ratio_is_at_most pm_Ratio_is_at_most an_Ratio_is_at_most cd_Ratio_is_at_most ct_Ratio_is_at_most) := fd0 l_Ratio_is_at_most c_Ratio_is_at_most k_Ratio_is_at_most
  have F_Ratio_eq : FnD K "__eq__" "Ratio.__eq__" s_Ratio_eq [] f_Ratio_eq (PySem.W.fnOf "__eq__" "Ratio.__eq__" (defArgs s_Ratio_eq) (defBody s_Ratio_eq) (defScope s_Ratio_eq) .none kV_Ratio_eq dc_Ratio_eq pm_Ratio_eq an_Ratio_eq cd_Ratio_eq ct_Ratio_eq) := fd0 l_Ratio_eq c_Ratio_eq k_Ratio_eq
  have F_Ratio_str : FnD K "__str__" "Ratio.__str__" s_Ratio_str [] f_Ratio_str (PySem.W.fnOf "__str__" "Ratio.__str__" (defArgs s_Ratio_str) (defBody s_Ratio_str) (defScope s_Ratio_str) .none kV_Ratio_str dc_Ratio_str pm_Ratio_str an_Ratio_str cd_Ratio_str ct_Ratio_str) := fd0 l_Ratio_str c_Ratio_str k_Ratio_str
  have F_Ratio_repr : FnD K "__repr__" "Ratio.__repr__" s_Ratio_repr [] f_Ratio_repr (PySem.W.fnOf "__repr__" "Ratio.__repr__" (defArgs s_Ratio_repr) (defBody s_Ratio_repr) (defScope s_Ratio_repr) .none kV_Ratio_repr dc_Ratio_repr pm_Ratio_repr an_Ratio_repr cd_Ratio_repr ct_Ratio_repr) := fd0 l_Ratio_repr c_Ratio_repr k_Ratio_repr
  have F_Ratio_total : FnD K "total" "Ratio.total" s_Ratio_total [] f_Ratio_total (PySem.W.fnOf "total" "Ratio.total" (defArgs s_Ratio_total) (defBody s_Ratio_total) (defScope s_Ratio_total) .none kV_Ratio_total dc_Ratio_total pm_Ratio_total an_Ratio_total cd_Ratio_total ct_Ratio_total) := fd0 l_Ratio_total c_Ratio_total k_Ratio_total
  have F_terms : FnD K "_terms" "_terms" s_terms [] f_terms (PySem.W.fnOf "_terms" "_terms" (defArgs s_terms) (defBody s_terms) (defScope s_terms) .none kV_terms dc_terms pm_terms an_terms cd_terms ct_terms) := fd0 l_terms c_terms k_terms
  have F_law_pot : FnD K "_law_pot" "_law_pot" s_law_pot [] f_law_pot (PySem.W.fnOf "_law_pot" "_law_pot" (defArgs s_law_pot) (defBody s_law_pot) (defScope s_law_pot) .none kV_law_pot dc_law_pot pm_law_pot an_law_pot cd_law_pot ct_law_pot) := fd0 l_law_pot c_law_pot k_law_pot
  have F_law_draw : FnD K "_law_draw" "_law_draw" s_law_draw [] f_law_draw (PySem.W.fnOf "_law_draw" "_law_draw" (defArgs s_law_draw) (defBody s_law_draw) (defScope s_law_draw) .none kV_law_draw dc_law_draw pm_law_draw an_law_draw cd_law_draw ct_law_draw) := fd0 l_law_draw c_law_draw k_law_draw
  have F_law_pick : FnD K "_law_pick" "_law_pick" s_law_pick [] f_law_pick (PySem.W.fnOf "_law_pick" "_law_pick" (defArgs s_law_pick) (defBody s_law_pick) (defScope s_law_pick) .none kV_law_pick dc_law_pick pm_law_pick an_law_pick cd_law_pick ct_law_pick) := fd0 l_law_pick c_law_pick k_law_pick
  have F_law_top : FnD K "_law_top" "_law_top" s_law_top [] f_law_top (PySem.W.fnOf "_law_top" "_law_top" (defArgs s_law_top) (defBody s_law_top) (defScope s_law_top) .none kV_law_top dc_law_top pm_law_top an_law_top cd_law_top ct_law_top) := fd0 l_law_top c_law_top k_law_top
  have F_law_whole : FnD K "_law_whole" "_law_whole" s_law_whole [] f_law_whole (PySem.W.fnOf "_law_whole" "_law_whole" (defArgs s_law_whole) (defBody s_law_whole) (defScope s_law_whole) .none kV_law_whole dc_law_whole pm_law_whole an_law_whole cd_law_whole ct_law_whole) := fd0 l_law_whole c_law_whole k_law_whole
  have F_law_pair : FnD K "_law_pair" "_law_pair" s_law_pair [] f_law_pair (PySem.W.fnOf "_law_pair" "_law_pair" (defArgs s_law_pair) (defBody s_law_pair) (defScope s_law_pair) .none kV_law_pair dc_law_pair pm_law_pair an_law_pair cd_law_pair ct_law_pair) := fd0 l_law_pair c_law_pair k_law_pair
  have F_law_common : FnD K "_law_common" "_law_common" s_law_common [] f_law_common (PySem.W.fnOf "_law_common" "_law_common" (defArgs s_law_common) (defBody s_law_common) (defScope s_law_common) .none kV_law_common dc_law_common pm_law_common an_law_common cd_law_common ct_law_common) := fd0 l_law_common c_law_common k_law_common
  have F_law_is : FnD K "_law_is" "_law_is" s_law_is [] f_law_is (PySem.W.fnOf "_law_is" "_law_is" (defArgs s_law_is) (defBody s_law_is) (defScope s_law_is) .none kV_law_is dc_law_is pm_law_is an_law_is cd_law_is ct_law_is) := fd0 l_law_is c_law_is k_law_is
  have F_law_two_right : FnD K "_law_two_right" "_law_two_right" s_law_two_right [] f_law_two_right (PySem.W.fnOf "_law_two_right" "_law_two_right" (defArgs s_law_two_right) (defBody s_law_two_right) (defScope s_law_two_right) .none kV_law_two_right dc_law_two_right pm_law_two_right an_law_two_right cd_law_two_right ct_law_two_right) := fd0 l_law_two_right c_law_two_right k_law_two_right
  have F_law_whole_right : FnD K "_law_whole_right" "_law_whole_right" s_law_whole_right [] f_law_whole_right (PySem.W.fnOf "_law_whole_right" "_law_whole_right" (defArgs s_law_whole_right) (defBody s_law_whole_right) (defScope s_law_whole_right) .none kV_law_whole_right dc_law_whole_right pm_law_whole_right an_law_whole_right cd_law_whole_right ct_law_whole_right) := fd0 l_law_whole_right c_law_whole_right k_law_whole_right
  have F_law_total_right : FnD K "_law_total_right" "_law_total_right" s_law_total_right [] f_law_total_right (PySem.W.fnOf "_law_total_right" "_law_total_right" (defArgs s_law_total_right) (defBody s_law_total_right) (defScope s_law_total_right) .none kV_law_total_right dc_law_total_right pm_law_total_right an_law_total_right cd_law_total_right ct_law_total_right) := fd0 l_law_total_right c_law_total_right k_law_total_right
  have F_law : FnD K "law" "law" s_law [] f_law (PySem.W.fnOf "law" "law" (defArgs s_law) (defBody s_law) (defScope s_law) .none kV_law dc_law pm_law an_law cd_law ct_law) := fd0 l_law c_law k_law
  let A : Ads := { c_Ratio := C_Ratio, f_is_integer := f_is_integer, d_is_integer := (PySem.W.fnOf "is_integer" "is_integer" (defArgs s_is_integer) (defBody s_is_integer) (defScope s_is_integer) .none kV_is_integer dc_is_integer pm_is_integer an_is_integer cd_is_integer ct_is_integer), f_Ratio_init := f_Ratio_init, d_Ratio_init := (PySem.W.fnOf "__init__" "Ratio.__init__" (defArgs s_Ratio_init) (defBody s_Ratio_init) (defScope s_Ratio_init) (.ref t_Ratio_init) kV_Ratio_init dc_Ratio_init pm_Ratio_init an_Ratio_init cd_Ratio_init ct_Ratio_init), f_Ratio_top := f_Ratio_top, d_Ratio_top := (PySem.W.fnOf "top" "Ratio.top" (defArgs s_Ratio_top) (defBody s_Ratio_top) (defScope s_Ratio_top) .none kV_Ratio_top dc_Ratio_top pm_Ratio_top an_Ratio_top cd_Ratio_top ct_Ratio_top), p_Ratio_top := p_Ratio_top, f_Ratio_bottom := f_Ratio_bottom, d_Ratio_bottom := (PySem.W.fnOf "bottom" "Ratio.bottom" (defArgs s_Ratio_bottom) (defBody s_Ratio_bottom) (defScope s_Ratio_bottom) .none kV_Ratio_bottom dc_Ratio_bottom pm_Ratio_bottom an_Ratio_bottom cd_Ratio_bottom ct_Ratio_bottom), p_Ratio_bottom := p_Ratio_bottom, f_Ratio_sign := f_Ratio_sign, d_Ratio_sign := (PySem.W.fnOf "sign" "Ratio.sign" (defArgs s_Ratio_sign) (defBody s_Ratio_sign) (defScope s_Ratio_sign) .none kV_Ratio_sign dc_Ratio_sign pm_Ratio_sign an_Ratio_sign cd_Ratio_sign ct_Ratio_sign), p_Ratio_sign := p_Ratio_sign, f_Ratio_is_whole := f_Ratio_is_whole, d_Ratio_is_whole := (PySem.W.fnOf "is_whole" "Ratio.is_whole" (defArgs s_Ratio_is_whole) (defBody s_Ratio_is_whole) (defScope s_Ratio_is_whole) .none kV_Ratio_is_whole dc_Ratio_is_whole pm_Ratio_is_whole an_Ratio_is_whole cd_Ratio_is_whole ct_Ratio_is_whole), p_Ratio_is_whole := p_Ratio_is_whole, f_Ratio_add := f_Ratio_add, d_Ratio_add := (PySem.W.fnOf "__add__" "Ratio.__add__" (defArgs s_Ratio_add) (defBody s_Ratio_add) (defScope s_Ratio_add) .none kV_Ratio_add dc_Ratio_add pm_Ratio_add an_Ratio_add cd_Ratio_add ct_Ratio_add), f_Ratio_radd := f_Ratio_radd, d_Ratio_radd := (PySem.W.fnOf "__radd__" "Ratio.__radd__" (defArgs s_Ratio_radd) (defBody s_Ratio_radd) (defScope s_Ratio_radd) .none kV_Ratio_radd dc_Ratio_radd pm_Ratio_radd an_Ratio_radd cd_Ratio_radd ct_Ratio_radd), f_Ratio_sub := f_Ratio_sub, d_Ratio_sub := (PySem.W.fnOf "__sub__" "Ratio.__sub__" (defArgs s_Ratio_sub) (defBody s_Ratio_sub) (defScope s_Ratio_sub) .none kV_Ratio_sub dc_Ratio_sub pm_Ratio_sub an_Ratio_sub cd_Ratio_sub ct_Ratio_sub), f_Ratio_rsub := f_Ratio_rsub, d_Ratio_rsub := (PySem.W.fnOf "__rsub__" "Ratio.__rsub__" (defArgs s_Ratio_rsub) (defBody s_Ratio_rsub) (defScope s_Ratio_rsub) .none kV_Ratio_rsub dc_Ratio_rsub pm_Ratio_rsub an_Ratio_rsub cd_Ratio_rsub ct_Ratio_rsub), f_Ratio_mul := f_Ratio_mul, d_Ratio_mul := (PySem.W.fnOf "__mul__" "Ratio.__mul__" (defArgs s_Ratio_mul) (defBody s_Ratio_mul) (defScope s_Ratio_mul) .none kV_Ratio_mul dc_Ratio_mul pm_Ratio_mul an_Ratio_mul cd_Ratio_mul ct_Ratio_mul), f_Ratio_rmul := f_Ratio_rmul, d_Ratio_rmul := (PySem.W.fnOf "__rmul__" "Ratio.__rmul__" (defArgs s_Ratio_rmul) (defBody s_Ratio_rmul) (defScope s_Ratio_rmul) .none kV_Ratio_rmul dc_Ratio_rmul pm_Ratio_rmul an_Ratio_rmul cd_Ratio_rmul ct_Ratio_rmul), f_Ratio_neg := f_Ratio_neg, d_Ratio_neg := (PySem.W.fnOf "__neg__" "Ratio.__neg__" (defArgs s_Ratio_neg) (defBody s_Ratio_neg) (defScope s_Ratio_neg) .none kV_Ratio_neg dc_Ratio_neg pm_Ratio_neg an_Ratio_neg cd_Ratio_neg ct_Ratio_neg), f_Ratio_over := f_Ratio_over, d_Ratio_over := (PySem.W.fnOf "over" "Ratio.over" (defArgs s_Ratio_over) (defBody s_Ratio_over) (defScope s_Ratio_over) .none kV_Ratio_over dc_Ratio_over pm_Ratio_over an_Ratio_over cd_Ratio_over ct_Ratio_over), f_Ratio_size := f_Ratio_size, d_Ratio_size := (PySem.W.fnOf "size" "Ratio.size" (defArgs s_Ratio_size) (defBody s_Ratio_size) (defScope s_Ratio_size) .none kV_Ratio_size dc_Ratio_size pm_Ratio_size an_Ratio_size cd_Ratio_size ct_Ratio_size), f_Ratio_is_below := f_Ratio_is_below, d_Ratio_is_below := (PySem.W.fnOf "is_below" "Ratio.is_below" (defArgs s_Ratio_is_below) (defBody s_Ratio_is_below) (defScope s_Ratio_is_below) .none kV_Ratio_is_below dc_Ratio_is_below pm_Ratio_is_below an_Ratio_is_below cd_Ratio_is_below ct_Ratio_is_below), f_Ratio_is_at_most := f_Ratio_is_at_most, d_Ratio_is_at_most := (PySem.W.fnOf "is_at_most" "Ratio.is_at_most" (defArgs s_Ratio_is_at_most) (defBody s_Ratio_is_at_most) (defScope s_Ratio_is_at_most) .none kV_Ratio_is_at_most dc_Ratio_is_at_most pm_Ratio_is_at_most an_Ratio_is_at_most cd_Ratio_is_at_most ct_Ratio_is_at_most), f_Ratio_eq := f_Ratio_eq, d_Ratio_eq := (PySem.W.fnOf "__eq__" "Ratio.__eq__" (defArgs s_Ratio_eq) (defBody s_Ratio_eq) (defScope s_Ratio_eq) .none kV_Ratio_eq dc_Ratio_eq pm_Ratio_eq an_Ratio_eq cd_Ratio_eq ct_Ratio_eq), f_Ratio_str := f_Ratio_str, d_Ratio_str := (PySem.W.fnOf "__str__" "Ratio.__str__" (defArgs s_Ratio_str) (defBody s_Ratio_str) (defScope s_Ratio_str) .none kV_Ratio_str dc_Ratio_str pm_Ratio_str an_Ratio_str cd_Ratio_str ct_Ratio_str), f_Ratio_repr := f_Ratio_repr, d_Ratio_repr := (PySem.W.fnOf "__repr__" "Ratio.__repr__" (defArgs s_Ratio_repr) (defBody s_Ratio_repr) (defScope s_Ratio_repr) .none kV_Ratio_repr dc_Ratio_repr pm_Ratio_repr an_Ratio_repr cd_Ratio_repr ct_Ratio_repr), f_Ratio_total := f_Ratio_total, d_Ratio_total := (PySem.W.fnOf "total" "Ratio.total" (defArgs s_Ratio_total) (defBody s_Ratio_total) (defScope s_Ratio_total) .none kV_Ratio_total dc_Ratio_total pm_Ratio_total an_Ratio_total cd_Ratio_total ct_Ratio_total), p_Ratio_total := p_Ratio_total, f_terms := f_terms, d_terms := (PySem.W.fnOf "_terms" "_terms" (defArgs s_terms) (defBody s_terms) (defScope s_terms) .none kV_terms dc_terms pm_terms an_terms cd_terms ct_terms), f_law_pot := f_law_pot, d_law_pot := (PySem.W.fnOf "_law_pot" "_law_pot" (defArgs s_law_pot) (defBody s_law_pot) (defScope s_law_pot) .none kV_law_pot dc_law_pot pm_law_pot an_law_pot cd_law_pot ct_law_pot), f_law_draw := f_law_draw, d_law_draw := (PySem.W.fnOf "_law_draw" "_law_draw" (defArgs s_law_draw) (defBody s_law_draw) (defScope s_law_draw) .none kV_law_draw dc_law_draw pm_law_draw an_law_draw cd_law_draw ct_law_draw), f_law_pick := f_law_pick, d_law_pick := (PySem.W.fnOf "_law_pick" "_law_pick" (defArgs s_law_pick) (defBody s_law_pick) (defScope s_law_pick) .none kV_law_pick dc_law_pick pm_law_pick an_law_pick cd_law_pick ct_law_pick), f_law_top := f_law_top, d_law_top := (PySem.W.fnOf "_law_top" "_law_top" (defArgs s_law_top) (defBody s_law_top) (defScope s_law_top) .none kV_law_top dc_law_top pm_law_top an_law_top cd_law_top ct_law_top), f_law_whole := f_law_whole, d_law_whole := (PySem.W.fnOf "_law_whole" "_law_whole" (defArgs s_law_whole) (defBody s_law_whole) (defScope s_law_whole) .none kV_law_whole dc_law_whole pm_law_whole an_law_whole cd_law_whole ct_law_whole), f_law_pair := f_law_pair, d_law_pair := (PySem.W.fnOf "_law_pair" "_law_pair" (defArgs s_law_pair) (defBody s_law_pair) (defScope s_law_pair) .none kV_law_pair dc_law_pair pm_law_pair an_law_pair cd_law_pair ct_law_pair), f_law_common := f_law_common, d_law_common := (PySem.W.fnOf "_law_common" "_law_common" (defArgs s_law_common) (defBody s_law_common) (defScope s_law_common) .none kV_law_common dc_law_common pm_law_common an_law_common cd_law_common ct_law_common), f_law_is := f_law_is, d_law_is := (PySem.W.fnOf "_law_is" "_law_is" (defArgs s_law_is) (defBody s_law_is) (defScope s_law_is) .none kV_law_is dc_law_is pm_law_is an_law_is cd_law_is ct_law_is), f_law_two_right := f_law_two_right, d_law_two_right := (PySem.W.fnOf "_law_two_right" "_law_two_right" (defArgs s_law_two_right) (defBody s_law_two_right) (defScope s_law_two_right) .none kV_law_two_right dc_law_two_right pm_law_two_right an_law_two_right cd_law_two_right ct_law_two_right), f_law_whole_right := f_law_whole_right, d_law_whole_right := (PySem.W.fnOf "_law_whole_right" "_law_whole_right" (defArgs s_law_whole_right) (defBody s_law_whole_right) (defScope s_law_whole_right) .none kV_law_whole_right dc_law_whole_right pm_law_whole_right an_law_whole_right cd_law_whole_right ct_law_whole_right), f_law_total_right := f_law_total_right, d_law_total_right := (PySem.W.fnOf "_law_total_right" "_law_total_right" (defArgs s_law_total_right) (defBody s_law_total_right) (defScope s_law_total_right) .none kV_law_total_right dc_law_total_right pm_law_total_right an_law_total_right cd_law_total_right ct_law_total_right), f_law := f_law, d_law := (PySem.W.fnOf "law" "law" (defArgs s_law) (defBody s_law) (defScope s_law) .none kV_law dc_law pm_law an_law cd_law ct_law) }
  have T : Txt K mg A := {
    kinds := kinds1 rfl rfl ⟨pg_Ratio, hd_Ratio, po_Ratio, sa_Ratio⟩ ha_Ratio oc_get oc_tak hm_Ratio (kit_ct km_int bint_Ratio) (kit_ct km_bool bbool_Ratio) (kit_ct km_list blist_Ratio) (kit_ct km_tuple btuple_Ratio) (kit_ct km_str bstr_Ratio) (kit_tc ic_Ratio ty_Ratio nNoneType_Ratio) (kit_tc ic_Ratio ty_Ratio nbool_Ratio) (kit_tc ic_Ratio ty_Ratio nint_Ratio) (kit_tc ic_Ratio ty_Ratio nstr_Ratio) (kit_tc ic_Ratio ty_Ratio nlist_Ratio) (kit_tc ic_Ratio ty_Ratio ntuple_Ratio) kit_same,
    cl_Ratio := ⟨pg_Ratio, hd_Ratio, po_Ratio, sa_Ratio⟩,
    mk_Ratio := ⟨mk_Ratio, a_Ratio_init, i_Ratio_init, kc_Ratio⟩,
    g_Ratio := PySem.W.mg_of X G aC_Ratio,
    n_Ratio__top := nf_Ratio__top,
    n_Ratio__bottom := nf_Ratio__bottom,
    P_Ratio_top := ⟨a_Ratio_top, x_Ratio_top, y_Ratio_top, ⟨_, r_Ratio_top⟩⟩,
    P_Ratio_bottom := ⟨a_Ratio_bottom, x_Ratio_bottom, y_Ratio_bottom, ⟨_, r_Ratio_bottom⟩⟩,
    P_Ratio_sign := ⟨a_Ratio_sign, x_Ratio_sign, y_Ratio_sign, ⟨_, r_Ratio_sign⟩⟩,
    P_Ratio_is_whole := ⟨a_Ratio_is_whole, x_Ratio_is_whole, y_Ratio_is_whole, ⟨_, r_Ratio_is_whole⟩⟩,
    r_Ratio := ⟨rd_Ratio, ga_Ratio⟩,
    c_Ratio_total := ⟨a_Ratio_total, ⟨_, r_Ratio_total⟩, z_Ratio_total⟩,
    M_Ratio_over := ⟨a_Ratio_over, i_Ratio_over, k_Ratio_over⟩,
    M_Ratio_size := ⟨a_Ratio_size, i_Ratio_size, k_Ratio_size⟩,
    M_Ratio_is_below := ⟨a_Ratio_is_below, i_Ratio_is_below, k_Ratio_is_below⟩,
    M_Ratio_is_at_most := ⟨a_Ratio_is_at_most, i_Ratio_is_at_most, k_Ratio_is_at_most⟩,
    O_add := ⟨sf_Ratio, a_Ratio_add, i_Ratio_add⟩,
    OR_add := ⟨sf_Ratio, a_Ratio_radd, i_Ratio_radd⟩,
    OI_add := ⟨⟨_, a_Ratio_radd, .inr ⟨_, rfl⟩⟩, ⟨_, q1_add⟩, ⟨_, q2_add⟩, s1_Ratio, s2_Ratio⟩,
    O_sub := ⟨sf_Ratio, a_Ratio_sub, i_Ratio_sub⟩,
    OR_sub := ⟨sf_Ratio, a_Ratio_rsub, i_Ratio_rsub⟩,
    OI_sub := ⟨⟨_, a_Ratio_rsub, .inr ⟨_, rfl⟩⟩, ⟨_, q1_sub⟩, ⟨_, q2_sub⟩, s1_Ratio, s2_Ratio⟩,
    O_mul := ⟨sf_Ratio, a_Ratio_mul, i_Ratio_mul⟩,
    OR_mul := ⟨sf_Ratio, a_Ratio_rmul, i_Ratio_rmul⟩,
    OI_mul := ⟨⟨_, a_Ratio_rmul, .inr ⟨_, rfl⟩⟩, ⟨_, q1_mul⟩, ⟨_, q2_mul⟩, s1_Ratio, s2_Ratio⟩,
    neg_at := a_Ratio_neg,
    neg_fn := i_Ratio_neg,
    eq_at := a_Ratio_eq,
    eq_fn := i_Ratio_eq,
    str_at := a_Ratio_str,
    str_fn := i_Ratio_str,
    repr_at := a_Ratio_repr,
    repr_fn := i_Ratio_repr,
    eq_sub := s1_Ratio,
    ne_at := ne_Ratio,
    ne_so := so_Ratio,
    F_is_integer := F_is_integer,
    b_is_integer := binds0 F_is_integer fun _ _ _ _ _ _ us hl => match us, hl with | [_], _ => rfl,
    g_is_integer := PySem.W.mg_of X G a_is_integer,
    k_is_integer := k_is_integer,
    F_Ratio_init := F_Ratio_init,
    F_Ratio_top := F_Ratio_top,
    b_Ratio_top := binds0 F_Ratio_top fun _ _ _ _ _ _ us hl => match us, hl with | [_], _ => rfl,
    F_Ratio_bottom := F_Ratio_bottom,
    b_Ratio_bottom := binds0 F_Ratio_bottom fun _ _ _ _ _ _ us hl => match us, hl with | [_], _ => rfl,
    F_Ratio_sign := F_Ratio_sign,
    b_Ratio_sign := binds0 F_Ratio_sign fun _ _ _ _ _ _ us hl => match us, hl with | [_], _ => rfl,
    F_Ratio_is_whole := F_Ratio_is_whole,
    b_Ratio_is_whole := binds0 F_Ratio_is_whole fun _ _ _ _ _ _ us hl => match us, hl with | [_], _ => rfl,
    F_Ratio_add := F_Ratio_add,
    b_Ratio_add := binds0 F_Ratio_add fun _ _ _ _ _ _ us hl => match us, hl with | [_, _], _ => rfl,
    F_Ratio_radd := F_Ratio_radd,
    b_Ratio_radd := binds0 F_Ratio_radd fun _ _ _ _ _ _ us hl => match us, hl with | [_, _], _ => rfl,
    F_Ratio_sub := F_Ratio_sub,
    b_Ratio_sub := binds0 F_Ratio_sub fun _ _ _ _ _ _ us hl => match us, hl with | [_, _], _ => rfl,
    F_Ratio_rsub := F_Ratio_rsub,
    b_Ratio_rsub := binds0 F_Ratio_rsub fun _ _ _ _ _ _ us hl => match us, hl with | [_, _], _ => rfl,
    F_Ratio_mul := F_Ratio_mul,
    b_Ratio_mul := binds0 F_Ratio_mul fun _ _ _ _ _ _ us hl => match us, hl with | [_, _], _ => rfl,
    F_Ratio_rmul := F_Ratio_rmul,
    b_Ratio_rmul := binds0 F_Ratio_rmul fun _ _ _ _ _ _ us hl => match us, hl with | [_, _], _ => rfl,
    F_Ratio_neg := F_Ratio_neg,
    b_Ratio_neg := binds0 F_Ratio_neg fun _ _ _ _ _ _ us hl => match us, hl with | [_], _ => rfl,
    F_Ratio_over := F_Ratio_over,
    b_Ratio_over := binds0 F_Ratio_over fun _ _ _ _ _ _ us hl => match us, hl with | [_, _], _ => rfl,
    F_Ratio_size := F_Ratio_size,
    b_Ratio_size := binds0 F_Ratio_size fun _ _ _ _ _ _ us hl => match us, hl with | [_], _ => rfl,
    F_Ratio_is_below := F_Ratio_is_below,
    b_Ratio_is_below := binds0 F_Ratio_is_below fun _ _ _ _ _ _ us hl => match us, hl with | [_, _], _ => rfl,
    F_Ratio_is_at_most := F_Ratio_is_at_most,
    b_Ratio_is_at_most := binds0 F_Ratio_is_at_most fun _ _ _ _ _ _ us hl => match us, hl with | [_, _], _ => rfl,
    F_Ratio_eq := F_Ratio_eq,
    b_Ratio_eq := binds0 F_Ratio_eq fun _ _ _ _ _ _ us hl => match us, hl with | [_, _], _ => rfl,
    F_Ratio_str := F_Ratio_str,
    b_Ratio_str := binds0 F_Ratio_str fun _ _ _ _ _ _ us hl => match us, hl with | [_], _ => rfl,
    F_Ratio_repr := F_Ratio_repr,
    b_Ratio_repr := binds0 F_Ratio_repr fun _ _ _ _ _ _ us hl => match us, hl with | [_], _ => rfl,
    F_Ratio_total := F_Ratio_total,
    b_Ratio_total := binds0 F_Ratio_total fun _ _ _ _ _ _ us hl => match us, hl with | [_, _], _ => rfl,
    F_terms := F_terms,
    b_terms := binds0 F_terms fun _ _ _ _ _ _ us hl => match us, hl with | [_], _ => rfl,
    g_terms := PySem.W.mg_of X G a_terms,
    k_terms := k_terms,
    F_law_pot := F_law_pot,
    b_law_pot := binds0 F_law_pot fun _ _ _ _ _ _ us hl => match us, hl with | [_, _], _ => rfl,
    g_law_pot := PySem.W.mg_of X G a_law_pot,
    k_law_pot := k_law_pot,
    F_law_draw := F_law_draw,
    b_law_draw := binds0 F_law_draw fun _ _ _ _ _ _ us hl => match us, hl with | [_, _], _ => rfl,
    g_law_draw := PySem.W.mg_of X G a_law_draw,
    k_law_draw := k_law_draw,
    F_law_pick := F_law_pick,
    b_law_pick := binds0 F_law_pick fun _ _ _ _ _ _ us hl => match us, hl with | [_, _], _ => rfl,
    g_law_pick := PySem.W.mg_of X G a_law_pick,
    k_law_pick := k_law_pick,
    F_law_top := F_law_top,
    b_law_top := binds0 F_law_top fun _ _ _ _ _ _ us hl => match us, hl with | [_], _ => rfl,
    g_law_top := PySem.W.mg_of X G a_law_top,
    k_law_top := k_law_top,
    F_law_whole := F_law_whole,
    b_law_whole := binds0 F_law_whole fun _ _ _ _ _ _ us hl => match us, hl with | [_], _ => rfl,
    g_law_whole := PySem.W.mg_of X G a_law_whole,
    k_law_whole := k_law_whole,
    F_law_pair := F_law_pair,
    b_law_pair := binds0 F_law_pair fun _ _ _ _ _ _ us hl => match us, hl with | [_], _ => rfl,
    g_law_pair := PySem.W.mg_of X G a_law_pair,
    k_law_pair := k_law_pair,
    F_law_common := F_law_common,
    b_law_common := binds0 F_law_common fun _ _ _ _ _ _ us hl => match us, hl with | [_, _], _ => rfl,
    g_law_common := PySem.W.mg_of X G a_law_common,
    k_law_common := k_law_common,
    F_law_is := F_law_is,
    b_law_is := binds0 F_law_is fun _ _ _ _ _ _ us hl => match us, hl with | [_, _, _], _ => rfl,
    g_law_is := PySem.W.mg_of X G a_law_is,
    k_law_is := k_law_is,
    F_law_two_right := F_law_two_right,
    b_law_two_right := binds0 F_law_two_right fun _ _ _ _ _ _ us hl => match us, hl with | [_, _], _ => rfl,
    g_law_two_right := PySem.W.mg_of X G a_law_two_right,
    k_law_two_right := k_law_two_right,
    F_law_whole_right := F_law_whole_right,
    b_law_whole_right := binds0 F_law_whole_right fun _ _ _ _ _ _ us hl => match us, hl with | [_, _], _ => rfl,
    g_law_whole_right := PySem.W.mg_of X G a_law_whole_right,
    k_law_whole_right := k_law_whole_right,
    F_law_total_right := F_law_total_right,
    b_law_total_right := binds0 F_law_total_right fun _ _ _ _ _ _ us hl => match us, hl with | [_, _], _ => rfl,
    g_law_total_right := PySem.W.mg_of X G a_law_total_right,
    k_law_total_right := k_law_total_right,
    F_law := F_law,
    b_law := binds0 F_law fun _ _ _ _ _ _ us hl => match us, hl with | [_], _ => rfl,
    g_law := PySem.W.mg_of X G a_law,
    k_law := k_law,
    g_abs := PySem.W.mg_none_of X G u_abs,
    g_all := PySem.W.mg_none_of X G u_all,
    g_bool := PySem.W.mg_none_of X G u_bool,
    g_divmod := PySem.W.mg_none_of X G u_divmod,
    g_gcd := PySem.W.mg_of X G u_gcd,
    g_int := PySem.W.mg_none_of X G u_int,
    g_isinstance := PySem.W.mg_none_of X G u_isinstance,
    g_lcm := PySem.W.mg_of X G u_lcm,
    g_len := PySem.W.mg_none_of X G u_len,
    g_list := PySem.W.mg_none_of X G u_list,
    g_max := PySem.W.mg_none_of X G u_max,
    g_range := PySem.W.mg_none_of X G u_range,
    g_repr := PySem.W.mg_none_of X G u_repr,
    g_str := PySem.W.mg_none_of X G u_str,
    g_sum := PySem.W.mg_none_of X G u_sum,
    g_tuple := PySem.W.mg_none_of X G u_tuple }
  exact ⟨(PySem.W.fnOf "law" "law" (defArgs s_law) (defBody s_law) (defScope s_law) .none kV_law dc_law pm_law an_law cd_law ct_law), fun s v => .of_eq rfl, fun base _ _ => FnG.weak (ok_law T) (spLaw_of (G := gl K A) LT)⟩
end Mir
namespace Mir
open PySem PySem.Spec PyProof.Rows L2
/-! ### fractions -/
def R (p q : Int) : Val := .obj 0 [.int p, .int q]
/-- in lowest terms -/
structure Low (p q : Int) : Prop where
  pos : 0 < q
  gcd : Nat.gcd p.natAbs q.natAbs = 1
theorem isI_int {a : Int} : m_is_integer (.int a) = .ok (.bl true) := by rfl
theorem isI_R {p q : Int} : m_is_integer (R p q) = .ok (.bl false) := by rfl
theorem dvd_fdiv {a s : Int} (h : s ∣ a) (hs : s ≠ 0) : a.fdiv s * s = a := by
  obtain ⟨k, rfl⟩ := h
  rw [Int.mul_comm s k, Int.mul_fdiv_cancel _ hs]
theorem log2_le {a b : Nat} (h : a ≤ b) : a.log2 ≤ b.log2 := by
  by_cases ha : a = 0
  · subst ha; simp
  · have hb : b ≠ 0 := by omega
    rw [Nat.le_log2 hb]
    exact Nat.le_trans (Nat.log2_self_le ha) h
theorem log2_of {a k : Nat} (hk : 0 < k) (h : a < 2 ^ k) : a.log2 < k := by
  by_cases ha : a = 0
  · subst ha; simpa using hk
  · exact (Nat.log2_lt ha).mpr h
theorem init_ok {a b : Int} (hb : b ≠ 0) (hs : b.natAbs.log2 < 9000) : ∃ p q, m_Ratio_init (.int a) (.int b) = .ok [.int p, .int q] ∧ Low p q ∧ p * b = a * q ∧ p.natAbs ≤ a.natAbs ∧ q.natAbs ≤ b.natAbs := by
  have g0 : 0 < Nat.gcd a.natAbs b.natAbs := Nat.gcd_pos_of_pos_right _ (by omega)
  generalize hg : Nat.gcd a.natAbs b.natAbs = g at g0
  have ga : (g : Int) ∣ a := by rw [← hg]; exact Int.ofNat_dvd_left.mpr (Nat.gcd_dvd_left _ _)
  have gb : (g : Int) ∣ b := by rw [← hg]; exact Int.ofNat_dvd_left.mpr (Nat.gcd_dvd_right _ _)
  have gle : g ≤ b.natAbs := by rw [← hg]; exact Nat.gcd_le_right _ (by omega)
  have gl : g.log2 < 9000 := Nat.lt_of_le_of_lt (log2_le gle) hs
  obtain ⟨s, es, s0, sa, sb, sl, sg⟩ : ∃ s : Int, s = (if b < 0 then -(g : Int) else g) ∧ s ≠ 0 ∧ s ∣ a ∧ s ∣ b ∧ s.natAbs.log2 < 9000 ∧ s.natAbs = g := by
    by_cases h : b < 0
    · refine ⟨-(g : Int), by rw [if_pos h], by omega, Int.neg_dvd.mpr ga, Int.neg_dvd.mpr gb, by simpa using gl, by simp⟩
    · refine ⟨g, by rw [if_neg h], by omega, ga, gb, by simpa using gl, by simp⟩
  have pa := dvd_fdiv sa s0
  have qb := dvd_fdiv sb s0
  refine ⟨a.fdiv s, b.fdiv s, ?_, ⟨?_, ?_⟩, ?_, ?_, ?_⟩
  · have e1 : fdivZ a s = .ok (.int (a.fdiv s)) := if_pos ⟨s0, sl⟩
    have e2 : fdivZ b s = .ok (.int (b.fdiv s)) := if_pos ⟨s0, sl⟩
    have z : decide (b = 0) = false := by simpa using hb
    simp only [m_Ratio_init, consR_ok, ok_bind, a1_ok, isI_int, tst_ok, notB_ok, iteR_f, Bool.not_true, rOr, op2_ok, seq, z, bGcd, joinR, ilt, hg, if_false, Bool.false_eq_true]
    by_cases h : b < 0
    · rw [if_pos h] at es
      simp only [h, decide_true, iteR_t, ineg, ok_bind, ← es, ifdiv, e1, e2, List.nil_append, List.cons_append]
    · rw [if_neg h] at es
      simp only [h, decide_false, iteR_f, ok_bind, ← es, ifdiv, e1, e2, List.nil_append, List.cons_append]
  · by_cases h : b < 0
    · rw [if_pos h] at es
      have : b.fdiv s * s < 0 := by rw [qb]; exact h
      have hs : s < 0 := by omega
      rcases Int.lt_trichotomy (b.fdiv s) 0 with z | z | z
      · exact absurd this (by have := Int.mul_pos_of_neg_of_neg z hs; omega)
      · rw [z] at this; simp at this
      · exact z
    · rw [if_neg h] at es
      have hb' : 0 < b := by omega
      have : 0 < b.fdiv s * s := by rw [qb]; exact hb'
      have hs : 0 < s := by omega
      exact Int.pos_of_mul_pos_left this hs
  · have h : Nat.gcd ((a.fdiv s * s).natAbs) ((b.fdiv s * s).natAbs) = g := by rw [pa, qb, hg]
    rw [Int.natAbs_mul, Int.natAbs_mul, sg, Nat.gcd_mul_right] at h
    have : Nat.gcd (a.fdiv s).natAbs (b.fdiv s).natAbs * g = 1 * g := by rw [h, Nat.one_mul]
    exact Nat.eq_of_mul_eq_mul_right g0 this
  · have : a.fdiv s * b = (a.fdiv s * s) * b.fdiv s := by
      have := qb
      grind
    rw [this, pa]
  · have h : a.natAbs = (a.fdiv s).natAbs * g := by rw [← sg, ← Int.natAbs_mul, pa]
    rw [h]; exact Nat.le_mul_of_pos_right _ g0
  · have h : b.natAbs = (b.fdiv s).natAbs * g := by rw [← sg, ← Int.natAbs_mul, qb]
    rw [h]; exact Nat.le_mul_of_pos_right _ g0
theorem low_uniq {p q p' q' : Int} (h : Low p q) (h' : Low p' q') (e : p * q' = p' * q) : p = p' ∧ q = q' := by
  have e1 : p.natAbs * q'.natAbs = p'.natAbs * q.natAbs := by rw [← Int.natAbs_mul, ← Int.natAbs_mul, e]
  have d1 : q.natAbs ∣ q'.natAbs := by
    have : q.natAbs ∣ p.natAbs * q'.natAbs := ⟨p'.natAbs, by rw [e1, Nat.mul_comm]⟩
    exact (Nat.Coprime.dvd_of_dvd_mul_left (by rw [Nat.coprime_comm]; exact h.gcd) this)
  have d2 : q'.natAbs ∣ q.natAbs := by
    have : q'.natAbs ∣ p'.natAbs * q.natAbs := ⟨p.natAbs, by rw [← e1, Nat.mul_comm]⟩
    exact (Nat.Coprime.dvd_of_dvd_mul_left (by rw [Nat.coprime_comm]; exact h'.gcd) this)
  have e2 := Nat.dvd_antisymm d1 d2
  have p1 := h.pos
  have p2 := h'.pos
  have eq : q = q' := by omega
  subst eq
  exact ⟨Int.eq_of_mul_eq_mul_right (by omega) e, rfl⟩
theorem init_low {p q : Int} (h : Low p q) (hs : q.natAbs.log2 < 9000) : m_Ratio_init (.int p) (.int q) = .ok [.int p, .int q] := by
  have p0 := h.pos
  obtain ⟨p', q', e, l, x, _⟩ := init_ok (a := p) (b := q) (by omega) hs
  obtain ⟨rfl, rfl⟩ := low_uniq l h x
  exact e
/-- C(a, b) -/
theorem make2 {a b : Int} {ds : List Val} : makeM 0 (.ok [.int a, .int b]) (.ok []) [0, 1] ds (i2 m_Ratio_init) = (m_Ratio_init (.int a) (.int b) >>= fun zs => .ok (.obj 0 zs)) := by rfl
theorem make1 {a : Int} : makeM 0 (.ok [.int a]) (.ok []) [0, 1] [.int 1] (i2 m_Ratio_init) = (m_Ratio_init (.int a) (.int 1) >>= fun zs => .ok (.obj 0 zs)) := by rfl
theorem makeK {a b : Int} {ds : List Val} : makeM 0 (.ok []) (.ok [.int a, .int b]) [0, 1] ds (i2 m_Ratio_init) = (m_Ratio_init (.int a) (.int b) >>= fun zs => .ok (.obj 0 zs)) := by rfl
/-- a fraction made: some lowest terms, across equal -/
theorem made {a b : Int} (hb : b ≠ 0) (hs : b.natAbs.log2 < 9000) : ∃ p q, (m_Ratio_init (.int a) (.int b) >>= fun zs => Res.ok (Val.obj 0 zs)) = .ok (R p q) ∧ Low p q ∧ p * b = a * q ∧ p.natAbs ≤ a.natAbs ∧ q.natAbs ≤ b.natAbs := by
  obtain ⟨p, q, e, h⟩ := init_ok (a := a) hb hs
  exact ⟨p, q, by rw [e]; rfl, h⟩
theorem terms_R {p q : Int} : m_terms (R p q) = .ok (.tup [.int p, .int q]) := by rfl
theorem terms_int {a : Int} : m_terms (.int a) = .ok (.tup [.int a, .int 1]) := by rfl
theorem mulZ_ok {a b : Int} (h : a.natAbs.log2 + b.natAbs.log2 < 1000000) : mulZ a b = .ok (.int (a * b)) := if_pos h
theorem getF0 {p q : Int} : getF 0 0 (R p q) = .ok (.int p) := by rfl
theorem getF1 {p q : Int} : getF 0 1 (R p q) = .ok (.int q) := by rfl
end Mir
namespace Mir
open PySem PySem.Spec PyProof.Rows L2
/-! ### what is drawn -/
structure Pot (p : List Val) (x y : Int) : Prop where
  eq : p = [.int x, .int y]
  lo : 0 ≤ y
  hi : y < 2 ^ 32
def IsPot (p : List Val) : Prop := ∃ x y, Pot p x y
theorem atI0 {a : Val} {l : List Val} : atI (a :: l) 0 = some a := by simp [atI, ixN]
theorem atI1 {a b : Val} {l : List Val} : atI (a :: b :: l) 1 = some b := by
  have h : (1 : Int) < (l.length : Int) + 1 + 1 := by omega
  simp [atI, ixN, h]
theorem small_log {a : Int} (h0 : 0 ≤ a) {k : Nat} (hk : 0 < k) (h : a < 2 ^ k) : a.natAbs.log2 < k := by
  refine log2_of hk ?_
  have : (a.natAbs : Int) < ((2 ^ k : Nat) : Int) := by
    rw [Int.natAbs_of_nonneg h0]
    simpa using h
  omega
theorem draw_ok {p : List Val} (hp : IsPot p) {n : Int} (h0 : 0 < n) (hn : n < 2 ^ 64) : ∃ d p', m_law_draw p (.int n) = .ok (.int d, p') ∧ IsPot p' ∧ 0 ≤ d ∧ d < n := by
  obtain ⟨x, y, rfl, ylo, yhi⟩ := hp
  have hnl : n.natAbs.log2 < 64 := small_log (by omega) (by decide) hn
  by_cases hx : 0 < x
  · refine ⟨x % n, [.int (x / n), .int y], ?_, ⟨_, _, rfl, ylo, yhi⟩, Int.emod_nonneg _ (by omega), Int.emod_lt_of_pos _ h0⟩
    have c : 0 < n ∧ n.natAbs.log2 < 9000 := ⟨h0, by omega⟩
    simp [m_law_draw, vix, atI0, igt, hx, digitR, c]
  · have e1 : (y * 48271 + 18617).fmod 2147483587 = (y * 48271 + 18617) % 2147483587 := Int.fmod_eq_emod_of_nonneg _ (by decide)
    have r0 := Int.emod_nonneg (y * 48271 + 18617) (b := 2147483587) (by decide)
    have r1 := Int.emod_lt_of_pos (y * 48271 + 18617) (b := 2147483587) (by decide)
    generalize hz : (y * 48271 + 18617) % 2147483587 = z at e1 r0 r1
    have l1 : y.natAbs.log2 < 32 := small_log ylo (by decide) yhi
    have l2 : z.natAbs.log2 < 32 := small_log r0 (by decide) (by omega)
    have m1 : mulZ y 48271 = .ok (.int (y * 48271)) := mulZ_ok (by
      have : (48271 : Int).natAbs.log2 = 15 := by decide
      omega)
    have m2 : mulZ z z = .ok (.int (z * z)) := mulZ_ok (by omega)
    have d1 : fdivZ ((z * z).fmod 2147483549) 13 = .ok (.int (((z * z).fmod 2147483549).fdiv 13)) := if_pos ⟨by decide, by decide⟩
    have hm : ∀ w : Int, w.fmod n = w % n := fun w => Int.fmod_eq_emod_of_nonneg _ (by omega)
    refine ⟨(((z * z).fmod 2147483549).fdiv 13) % n, [.int x, .int z], ?_, ⟨_, _, rfl, r0, by omega⟩, Int.emod_nonneg _ (by omega), Int.emod_lt_of_pos _ h0⟩
    have n0 : n ≠ 0 := by omega
    simp [m_law_draw, vix, atI0, atI1, igt, hx, imul, iadd, m1, m2, bInt, imod, fmodZ, e1, fx, putI, ixN, ifdiv, d1, n0, hm]
theorem fdraw {p : List Val} {n : Int} {d : Val} {p' : List Val} (h : m_law_draw p (.int n) = .ok (d, p')) : fcall (p1 m_law_draw) (fl fun zs => (consR (.ok (.int n)) (.ok []))) p = .ok (d, p') := by
  simp [fcall, p1, h]
theorem zpow_le {a : Int} (ha : 1 ≤ a) {i j : Nat} (h : i ≤ j) : a ^ i ≤ a ^ j := by
  obtain ⟨k, rfl⟩ := Nat.le.dest h
  clear h
  induction k with
  | zero => exact Int.le_refl _
  | succ k ih =>
    rw [← Nat.add_assoc, Int.pow_succ]
    have h0 : 0 ≤ a ^ (i + k) := Int.pow_nonneg (by omega)
    have := Int.mul_le_mul_of_nonneg_left ha h0
    omega
theorem pow9_le {i j : Nat} (h : i ≤ j) : (1000000000 : Int) ^ i ≤ 1000000000 ^ j := zpow_le (by decide) h
theorem pow9 : ipow (.int 10) (.int 9) = .ok (.int 1000000000) := by rfl
theorem top_loop (k : List Val × Val → Res (Val × List Val)) : ∀ (l : List Val) (p : List Val) (f : Int) (j : Nat), IsPot p → 0 ≤ f → f < 1000000000 ^ j → j + l.length ≤ 10 → ∃ f' p', m_law_top_l1 k l (p, .int f) = k (p', .int f') ∧ IsPot p' ∧ 0 ≤ f' ∧ f' < 1000000000 ^ (j + l.length)
  | [], p, f, j, hp, h0, hf, _ => ⟨f, p, rfl, hp, h0, hf⟩
  | x :: l, p, f, j, hp, h0, hf, hl => by
    obtain ⟨d, p', e, hp', d0, d1⟩ := draw_ok hp (n := 1000000000) (by decide) (by decide)
    have hl' : j + 1 + l.length ≤ 10 := by simp at hl; omega
    have big : (1000000000 : Int) ^ j ≤ 1000000000 ^ 10 := pow9_le (by omega)
    have hm : mulZ f 1000000000 = .ok (.int (f * 1000000000)) := mulZ_ok (by
      have := small_log h0 (k := 300) (by decide) (Int.lt_of_lt_of_le hf (Int.le_trans big (by decide)))
      have e : (1000000000 : Int).natAbs.log2 = 29 := by decide
      omega)
    have hs : (1000000000 : Int) ^ (j + 1) = 1000000000 ^ j * 1000000000 := Int.pow_succ _ _
    obtain ⟨f', p'', e', hp'', f0, f1⟩ := top_loop k l p' (f * 1000000000 + d) (j + 1) hp' (by omega) (by omega) hl'
    have en : j + (x :: l).length = j + 1 + l.length := by rw [List.length_cons]; omega
    refine ⟨f', p'', ?_, hp'', f0, by rw [en]; exact f1⟩
    rw [← e']
    simp [m_law_top_l1, fop, fcall, p1, pow9, imul, hm, e, iadd]
theorem pow9_45 : (1000000000 : Int) ^ 5 = 10 ^ 45 := by decide
theorem top_ok {p : List Val} (hp : IsPot p) : ∃ t p', m_law_top p = .ok (.int t, p') ∧ IsPot p' ∧ t.natAbs < 10 ^ 45 := by
  obtain ⟨d, p1', e1, hp1, d0, d1⟩ := draw_ok hp (n := 5) (by decide) (by decide)
  by_cases h3 : d < 3
  · obtain ⟨u, p2', e2, hp2, u0, u1⟩ := draw_ok hp1 (n := 25) (by decide) (by decide)
    refine ⟨u - 12, p2', ?_, hp2, by omega⟩
    simp [m_law_top, fcall, p1, e1, ilt, h3, fop, e2, isub]
  · have key : ∀ l : List Val, l.length ≤ 5 → ∃ t p', m_law_top_l1 (fun v4_s => (retP ((fif (ftst (fop seq (fcall (p1 m_law_draw) (fl fun zs => (consR (.ok (.int 2)) (.ok [])))) (fl fun zs => (.ok (.int 0))))) (fl fun zs => (.ok v4_s.2)) (fl fun zs => (op2 isub (.ok (.int 0)) (.ok v4_s.2)))) v4_s.1))) l (p1', .int 0) = .ok (.int t, p') ∧ IsPot p' ∧ t.natAbs < 10 ^ 45 := by
      intro l hl
      obtain ⟨f, p2', e2, hp2, f0, f1⟩ := top_loop (fun v4_s => (retP ((fif (ftst (fop seq (fcall (p1 m_law_draw) (fl fun zs => (consR (.ok (.int 2)) (.ok [])))) (fl fun zs => (.ok (.int 0))))) (fl fun zs => (.ok v4_s.2)) (fl fun zs => (op2 isub (.ok (.int 0)) (.ok v4_s.2)))) v4_s.1))) l p1' 0 0 hp1 (by decide) (by decide) (by omega)
      have f2 : f < 10 ^ 45 := Int.lt_of_lt_of_le f1 (by
        rw [← pow9_45]
        exact pow9_le (by omega))
      obtain ⟨w, p3', e3, hp3, w0, w1⟩ := draw_ok hp2 (n := 2) (by decide) (by decide)
      by_cases hw : w = 0
      · refine ⟨f, p3', ?_, hp3, by omega⟩
        rw [e2]
        simp [fif, ftst, fop, fcall, p1, e3, seq, hw, asB]
      · refine ⟨0 - f, p3', ?_, hp3, by omega⟩
        rw [e2]
        simp [fif, ftst, fop, fcall, p1, e3, seq, hw, asB, isub]
    by_cases h4 : d = 3
    · obtain ⟨t, p', e, h⟩ := key [.int 0, .int 1, .int 2] (by decide)
      refine ⟨t, p', ?_, h⟩
      have er : rng1 [.int 3] = .ok [.int 0, .int 1, .int 2] := by rfl
      rw [← e]
      simp [m_law_top, fcall, p1, e1, ilt, h3, seq, h4, er]
    · obtain ⟨t, p', e, h⟩ := key [.int 0, .int 1, .int 2, .int 3, .int 4] (by decide)
      refine ⟨t, p', ?_, h⟩
      have er : rng1 [.int 5] = .ok [.int 0, .int 1, .int 2, .int 3, .int 4] := by rfl
      rw [← e]
      simp [m_law_top, fcall, p1, e1, ilt, h3, seq, h4, er]
theorem whole_ok {p : List Val} (hp : IsPot p) : ∃ t p', m_law_whole p = .ok (.int t, p') ∧ IsPot p' ∧ t.natAbs < 10 ^ 6 := by
  obtain ⟨d, p1', e1, hp1, d0, d1⟩ := draw_ok hp (n := 2) (by decide) (by decide)
  by_cases hd : d = 0
  · obtain ⟨u, p2', e2, hp2, u0, u1⟩ := draw_ok hp1 (n := 25) (by decide) (by decide)
    refine ⟨u - 12, p2', ?_, hp2, by omega⟩
    simp [m_law_whole, fif, ftst, fop, fcall, p1, e1, seq, hd, asB, e2, isub]
  · obtain ⟨u, p2', e2, hp2, u0, u1⟩ := draw_ok hp1 (n := 1999999) (by decide) (by decide)
    refine ⟨u - 999999, p2', ?_, hp2, by omega⟩
    simp [m_law_whole, fif, ftst, fop, fcall, p1, e1, seq, hd, asB, e2, isub]
/-- a pair: a top, a bottom that is not 0 -/
def IsPair (v : Val) : Prop := ∃ a b : Int, v = .tup [.int a, .int b] ∧ b ≠ 0 ∧ a.natAbs < 2 ^ 160 ∧ b.natAbs < 2 ^ 160
theorem pair_ok {p : List Val} (hp : IsPot p) : ∃ a b p', m_law_pair p = .ok (.tup [.int a, .int b], p') ∧ IsPot p' ∧ b ≠ 0 ∧ a.natAbs < 10 ^ 45 ∧ b.natAbs < 10 ^ 45 := by
  obtain ⟨d, p1', e1, hp1, d0, d1⟩ := draw_ok hp (n := 3) (by decide) (by decide)
  have fin : ∀ (b : Int) (p2 : List Val), IsPot p2 → b.natAbs < 10 ^ 45 → ∃ a b' p', retP ((ftup (fcons (fcall (p0 m_law_top) (fl fun zs => (.ok []))) (fl fun zs => (consR (iteR (tst (op2 sne (.ok (.int b)) (.ok (.int 0)))) (.ok (.int b)) (.ok (.int 5))) (.ok []))))) p2) = .ok (.tup [.int a, .int b'], p') ∧ IsPot p' ∧ b' ≠ 0 ∧ a.natAbs < 10 ^ 45 ∧ b'.natAbs < 10 ^ 45 := by
    intro b p2 hp2 hb
    obtain ⟨t, p3, e3, hp3, ht⟩ := top_ok hp2
    have hk : ∀ x y : Val, mkT [x, y] = .ok (.tup [x, y]) := fun _ _ => by rfl
    by_cases h : b = 0
    · refine ⟨t, 5, p3, ?_, hp3, by decide, ht, by decide⟩
      simp [ftup, fcons, fcall, p0, e3, sne, h, hk]
    · refine ⟨t, b, p3, ?_, hp3, h, ht, hb⟩
      simp [ftup, fcons, fcall, p0, e3, sne, h, hk]
  by_cases hd : d = 0
  · obtain ⟨t, p2', e2, hp2, ht⟩ := top_ok hp1
    obtain ⟨a, b, p', e, h⟩ := fin t p2' hp2 ht
    refine ⟨a, b, p', ?_, h⟩
    rw [← e]
    simp [m_law_pair, fif, ftst, fop, fcall, p1, p0, e1, seq, hd, asB, e2]
  · obtain ⟨u, p2', e2, hp2, u0, u1⟩ := draw_ok hp1 (n := 12) (by decide) (by decide)
    obtain ⟨a, b, p', e, h⟩ := fin (1 + u) p2' hp2 (by omega)
    refine ⟨a, b, p', ?_, h⟩
    rw [← e]
    simp [m_law_pair, fif, ftst, fop, fcall, p1, p0, e1, seq, hd, asB, e2, iadd]
theorem pick_ok {p : List Val} (hp : IsPot p) {l : List Val} (h0 : 0 < l.length) (h1 : l.length < 1000) : ∃ x p', m_law_pick p (.lst l) = .ok (x, p') ∧ IsPot p' ∧ x ∈ l := by
  obtain ⟨d, p1', e1, hp1, d0, d1⟩ := draw_ok hp (n := (l.length : Int)) (by omega) (by omega)
  have hd : d.toNat < l.length := by omega
  refine ⟨l[d.toNat], p1', ?_, hp1, List.getElem_mem hd⟩
  have ha : atI l d = some l[d.toNat] := by
    have h2 : d < (l.length : Int) := d1
    simp [atI, ixN, d0, h2, hd]
  simp [m_law_pick, fop, fcall, p1, bLen, e1, vix, ha]
/-- what is drawn from -/
theorem pot_ok {ns : List Int} : ∃ p, m_law_pot (.lst (ns.map Val.int)) (.int 0) = .ok p ∧ IsPot p := by
  have e10 : ipow (.int 10) (.int 18) = .ok (.int 1000000000000000000) := by rfl
  have key : ∀ cell : Int, ∃ p, (consR ((consR (.ok (.int 0)) (consR (op2 isub (.ok (.int cell)) (op2 ipow (.ok (.int 10)) (.ok (.int 18)))) (.ok []))) >>= bMax2) (consR (op2 iadd (op2 imod ((consR (op2 iadd (op2 imul (op2 imod ((consR (.ok (.int cell)) (.ok [])) >>= bInt) (.ok (.int 2147483549))) (op2 iadd (op2 imul (.ok (.int 2)) (.ok (.int 0))) (.ok (.int 563)))) (.ok (.int 1307))) (.ok [])) >>= bInt) (.ok (.int 2147483543))) (.ok (.int 1))) (.ok []))) = Res.ok p ∧ IsPot p := by
    intro cell
    have f1 : cell.fmod 2147483549 = cell % 2147483549 := Int.fmod_eq_emod_of_nonneg _ (by decide)
    have r0 := Int.emod_nonneg cell (b := 2147483549) (by decide)
    have r1 := Int.emod_lt_of_pos cell (b := 2147483549) (by decide)
    generalize cell % 2147483549 = z at f1 r0 r1
    have hm : mulZ z 563 = .ok (.int (z * 563)) := mulZ_ok (by
      have := small_log r0 (k := 32) (by decide) (by omega)
      have e : (563 : Int).natAbs.log2 = 9 := by decide
      omega)
    have hm0 : mulZ 2 0 = .ok (.int 0) := by rfl
    have f2 : (z * 563 + 1307).fmod 2147483543 = (z * 563 + 1307) % 2147483543 := Int.fmod_eq_emod_of_nonneg _ (by decide)
    have q0 := Int.emod_nonneg (z * 563 + 1307) (b := 2147483543) (by decide)
    have q1 := Int.emod_lt_of_pos (z * 563 + 1307) (b := 2147483543) (by decide)
    refine ⟨[.int (if cell - 1000000000000000000 > 0 then cell - 1000000000000000000 else 0), .int ((z * 563 + 1307) % 2147483543 + 1)], ?_, _, _, rfl, by omega, by omega⟩
    simp [e10, isub, bMax2, bInt, imod, fmodZ, f1, imul, hm0, iadd, hm, f2]
  have e887 : imul (.int 887) (.int 0) = .ok (.int 0) := by rfl
  cases ns with
  | nil =>
    obtain ⟨p, e, h⟩ := key (0 + 613)
    refine ⟨p, ?_, h⟩
    rw [← e]
    simp [m_law_pot, e887, iadd, bLen, ilt]
  | cons n ns =>
    obtain ⟨p, e, h⟩ := key (if n < 0 then -n else n)
    refine ⟨p, ?_, h⟩
    rw [← e]
    have hl : (0 : Int) < (ns.length : Int) + 1 := by omega
    simp [m_law_pot, e887, iadd, bLen, ilt, hl, vix, atI0, bAbs]
end Mir
namespace Mir
open PySem PySem.Spec PyProof.Rows L2
/-! ### the greatest common divisor, by remainders -/
theorem common_w (k : Val × Val → Res Val) : ∀ (n a b : Nat), b < n → m_law_common_w1 k n (.int a, .int b) = k (.int (Nat.gcd a b : Nat), .int 0) := by
  intro n
  induction n with
  | zero => intro a b h; omega
  | succ n ih =>
    intro a b h
    by_cases hb : b = 0
    · subst hb
      simp [m_law_common_w1, igt]
    · have hb' : 0 < b := Nat.pos_of_ne_zero hb
      have e : (a : Int).fmod b = ((a % b : Nat) : Int) := by
        rw [Int.fmod_eq_emod_of_nonneg _ (by omega)]
        rfl
      have hlt := Nat.mod_lt a hb'
      have := ih b (a % b) (by omega)
      have eg : Nat.gcd a b = Nat.gcd b (a % b) := by rw [Nat.gcd_comm a b, Nat.gcd_rec b a, Nat.gcd_comm]
      rw [eg, ← this]
      simp [m_law_common_w1, igt, hb', imod, fmodZ, hb, e]
theorem abs_ok {a : Int} : bAbs [.int a] = .ok (.int (a.natAbs : Int)) := by
  have h : (if a < 0 then -a else a) = (a.natAbs : Int) := by split <;> omega
  show Res.ok (Val.int (if a < 0 then -a else a)) = _
  rw [h]
theorem common_ok {a b : Int} : m_law_common (.int a) (.int b) = .ok (.int (Nat.gcd a.natAbs b.natAbs : Nat)) := by
  have h := common_w (fun v3_s => (.ok v3_s.1)) (fuel [.int (a.natAbs : Int), .int (b.natAbs : Int)]) a.natAbs b.natAbs (by simp [fuel]; omega)
  simp [m_law_common, abs_ok, h]
/-! ### texts -/
theorem strZ_ok {a : Int} (h : a.natAbs.log2 < 1900) : strZ a = .ok (.str (toString a)) := if_pos (by omega)
theorem txt_len {a : Int} (h : a.natAbs.log2 < 1900) : (Str.ofString (toString a)).length ≤ 2000 := by
  rw [PySem.ofString_length]
  have := int_text_length_le (k := 1900) (by decide) h
  omega
theorem sz : (10000 : Nat) ≤ sizeLine := by decide
theorem joinS_nil {a : Str} : joinS a [] = .ok (.str a) := rfl
theorem joinS_ok {a s : Str} {ms : List (Res Val)} (h : (a ++ s).length ≤ sizeLine) : joinS a (.ok (.str s) :: ms) = joinS (a ++ s) ms := if_pos h
theorem fmt_ok {a : Int} (h : a.natAbs.log2 < 1900) : fmtV (.int a) = .ok (.str (toString a)) := strZ_ok h
theorem sadd_ok {a b : Str} (h : a.length + b.length ≤ sizeLine) : sadd (.str a) (.str b) = .ok (.str (a ++ b)) := if_pos h
theorem len_slash : (Str.ofString "/").length = 1 := by rfl
theorem len_rat : (Str.ofString "Ratio(").length = 6 := by rfl
theorem len_com : (Str.ofString ", ").length = 2 := by rfl
theorem len_par : (Str.ofString ")").length = 1 := by rfl
theorem ofS_empty : Str.ofString "" = Str.empty := by rfl
def txt (p q : Int) : Str := if q = 1 then Str.ofString (toString p) else Str.ofString (toString p) ++ (Str.ofString "/" ++ Str.ofString (toString q))
def rtxt (p q : Int) : Str := Str.ofString "Ratio(" ++ Str.ofString (toString p) ++ Str.ofString ", " ++ Str.ofString (toString q) ++ Str.ofString ")"
theorem str_ok {p q : Int} (hp : p.natAbs.log2 < 1900) (hq : q.natAbs.log2 < 1900) : m_Ratio_str (R p q) = .ok (.str (txt p q)) := by
  have l1 := txt_len hp
  have l2 := txt_len hq
  have hs := sz
  by_cases h : q = 1
  · simp [m_Ratio_str, getF0, getF1, seq, h, bStrI, strZ_ok hp, txt]
  · have e : decide (q = 1) = false := by simpa using h
    simp only [m_Ratio_str, getF0, getF1, ok_bind, op2_ok, seq, e, tst_ok, iteR_f, fmt_ok hp, fmt_ok hq, txt, if_neg h]
    rw [joinS_ok (by rw [Str.empty_append]; omega), joinS_ok (by rw [Str.empty_append, Str.length_append, len_slash]; omega), joinS_ok (by rw [Str.empty_append, Str.length_append, Str.length_append, len_slash]; omega), joinS_nil, Str.empty_append, Str.append_assoc]
theorem repr_ok {p q : Int} (hp : p.natAbs.log2 < 1900) (hq : q.natAbs.log2 < 1900) : m_Ratio_repr (R p q) = .ok (.str (rtxt p q)) := by
  have l1 := txt_len hp
  have l2 := txt_len hq
  have hs := sz
  simp only [m_Ratio_repr, getF0, getF1, ok_bind, fmt_ok hp, fmt_ok hq, rtxt]
  rw [joinS_ok (by rw [Str.empty_append, len_rat]; omega), joinS_ok (by rw [Str.empty_append, Str.length_append, len_rat]; omega), joinS_ok (by rw [Str.empty_append, Str.length_append, Str.length_append, len_rat, len_com]; omega),
    joinS_ok (by rw [Str.empty_append, Str.length_append, Str.length_append, Str.length_append, len_rat, len_com]; omega), joinS_ok (by rw [Str.empty_append, Str.length_append, Str.length_append, Str.length_append, Str.length_append, len_rat, len_com, len_par]; omega), joinS_nil, Str.empty_append]
theorem gstr_int {a : Int} (h : a.natAbs.log2 < 1900) : gstr [.int a] = .ok (.str (toString a)) := strZ_ok h
theorem gstr_R {p q : Int} (hp : p.natAbs.log2 < 1900) (hq : q.natAbs.log2 < 1900) : gstr [R p q] = .ok (.str (txt p q)) := by
  have := str_ok hp hq
  show (if (0 : Nat) = 0 then asS (a1 m_Ratio_str [R p q]) else .no) = _
  rw [if_pos rfl, a1_ok, this]; rfl
theorem grepr_R {p q : Int} (hp : p.natAbs.log2 < 1900) (hq : q.natAbs.log2 < 1900) : grepr [R p q] = .ok (.str (rtxt p q)) := by
  have := repr_ok hp hq
  show (if (0 : Nat) = 0 then asS (a1 m_Ratio_repr [R p q]) else .no) = _
  rw [if_pos rfl, a1_ok, this]; rfl
/-! ### sizes -/
def B (k : Nat) (x : Int) : Prop := x.natAbs < 2 ^ k
theorem B.mono {j k : Nat} {x : Int} (h : B j x) (hk : j ≤ k) : B k x := Nat.lt_of_lt_of_le h (Nat.pow_le_pow_right (by decide) hk)
theorem B.mul {i j : Nat} {x y : Int} (h : B i x) (h' : B j y) : B (i + j) (x * y) := by
  unfold B at *
  rw [Int.natAbs_mul, Nat.pow_add]
  exact Nat.mul_lt_mul'' h h'
theorem B.add {i : Nat} {x y : Int} (h : B i x) (h' : B i y) : B (i + 1) (x + y) := by
  unfold B at *
  rw [Nat.pow_succ]
  omega
theorem B.sub {i : Nat} {x y : Int} (h : B i x) (h' : B i y) : B (i + 1) (x - y) := by
  unfold B at *
  rw [Nat.pow_succ]
  omega
theorem B.neg {i : Nat} {x : Int} (h : B i x) : B i (-x) := by
  unfold B at *
  omega
theorem B.log {k : Nat} {x : Int} (h : B k x) (hk : 0 < k) : x.natAbs.log2 < k := log2_of hk h
theorem B.le {k : Nat} {x y : Int} (h : B k x) (hy : y.natAbs ≤ x.natAbs) : B k y := Nat.lt_of_le_of_lt hy h
theorem B.imul {i j : Nat} {x y : Int} (h : B i x) (h' : B j y) (hi : 0 < i) (hj : 0 < j) (hk : i + j < 1000000) : Mir.imul (.int x) (.int y) = .ok (.int (x * y)) := mulZ_ok (by
  have := h.log hi
  have := h'.log hj
  omega)
/-! ### whether a fraction is what is told -/
theorem bl_repr2 {a : Int} {b : Bool} (ha : a = 0 ∨ a = 1 ∨ a = -1) : ∃ s, grepr [.lst [.int a, .bl b]] = .ok (.str s) := by
  rcases ha with rfl | rfl | rfl <;> cases b <;> exact ⟨_, rfl⟩
theorem prop_top {p q : Int} : propM 0 (a1 m_Ratio_top) (.ok (R p q)) = .ok (.int p) := by rfl
theorem prop_bottom {p q : Int} : propM 0 (a1 m_Ratio_bottom) (.ok (R p q)) = .ok (.int q) := by rfl
theorem prop_whole {p q : Int} : propM 0 (a1 m_Ratio_is_whole) (.ok (R p q)) = .ok (.bl (decide (q = 1))) := by rfl
def sgn (p : Int) : Int := if p = 0 then 0 else if p > 0 then 1 else -1
theorem sgn_cases {p : Int} : sgn p = 0 ∨ sgn p = 1 ∨ sgn p = -1 := by
  unfold sgn
  by_cases h : p = 0
  · exact .inl (if_pos h)
  · rw [if_neg h]
    by_cases h2 : p > 0
    · exact .inr (.inl (if_pos h2))
    · exact .inr (.inr (if_neg h2))
theorem prop_sign {p q : Int} : propM 0 (a1 m_Ratio_sign) (.ok (R p q)) = .ok (.int (sgn p)) := by
  unfold sgn
  by_cases h : p = 0
  · simp [propM, onObj, R, m_Ratio_sign, getF, nth, seq, h]
  · by_cases h2 : p > 0
    · simp [propM, onObj, R, m_Ratio_sign, getF, nth, seq, h, igt, h2]
    · simp [propM, onObj, R, m_Ratio_sign, getF, nth, seq, h, igt, h2, ineg]
theorem isO_R {p q : Int} : isO 1 0 (R p q) = .ok (.bl true) := by rfl
theorem low_abs {p q : Int} (h : Low p q) : Low (p.natAbs : Int) q := ⟨h.pos, by simpa using h.gcd⟩
theorem size_ok {p q : Int} (h : Low p q) (hq : B 8000 q) : m_Ratio_size (R p q) = .ok (R (p.natAbs : Int) q) := by
  simp only [m_Ratio_size, ok_bind, getF0, getF1, consR_ok, abs_ok, make2, init_low (low_abs h) (Nat.lt_trans (hq.log (by decide)) (by decide))]
  rfl
theorem eq_RR {p q p' q' : Int} : m_Ratio_eq (R p q) (R p' q') = .ok (.bl (decide (p = p') && decide (q = q'))) := by
  by_cases h : p = p' <;> simp [m_Ratio_eq, isO_R, vAnd, asB, getF0, getF1, seq, h]
theorem geq_RR {p q p' q' : Int} : geq_ (R p q) (R p' q') = .ok (.bl (decide (p = p') && decide (q = q'))) := by
  show gop 0 seq (a2 m_Ratio_eq) (fun _ => .no) (R p q) (R p' q') = _
  simp only [R, gop_oo, a2_ok]
  exact eq_RR
theorem law_is_ok {p q t b : Int} (h : Low p q) (hp : B 1800 p) (hq : B 1800 q) (ht : B 4000 t) (hb : B 4000 b) (e : p * b = t * q) : m_law_is (R p q) (.int t) (.int b) = .ok (.bl true) := by
  have h0 := h.pos
  have l1 : p.natAbs.log2 < 1900 := Nat.lt_trans (hp.log (by decide)) (by decide)
  have l2 : q.natAbs.log2 < 1900 := Nat.lt_trans (hq.log (by decide)) (by decide)
  have k1 := txt_len l1
  have k2 := txt_len l2
  have hs := sz
  have m1 := hp.imul hb (by decide) (by decide) (by decide)
  have m2 := ht.imul hq (by decide) (by decide) (by decide)
  have n1 : ¬ q < 1 := by omega
  have g1 : (Nat.gcd p.natAbs q.natAbs : Int) = 1 := by rw [h.gcd]; rfl
  have c1 : sadd (.str (toString p)) (.str "") = .ok (.str (toString p)) := by
    rw [sadd_ok (by rw [ofS_empty]; show (Str.ofString (toString p)).length + 0 ≤ sizeLine; omega), ofS_empty, Str.append_empty]
  have c2 : sadd (.str "/") (.str (toString q)) = .ok (.str (Str.ofString "/" ++ toString q)) := sadd_ok (by rw [len_slash]; omega)
  have c3 : sadd (.str (toString p)) (.str (Str.ofString "/" ++ toString q)) = .ok (.str (toString p ++ (Str.ofString "/" ++ toString q))) := sadd_ok (by rw [Str.length_append, len_slash]; omega)
  have r1 : sadd (.str "Ratio(") (.str (toString p)) = .ok (.str (Str.ofString "Ratio(" ++ toString p)) := sadd_ok (by rw [len_rat]; omega)
  have r2 : sadd (.str (Str.ofString "Ratio(" ++ toString p)) (.str ", ") = .ok (.str (Str.ofString "Ratio(" ++ toString p ++ Str.ofString ", ")) := sadd_ok (by rw [Str.length_append, len_rat, len_com]; omega)
  have r3 : sadd (.str (Str.ofString "Ratio(" ++ toString p ++ Str.ofString ", ")) (.str (toString q)) = .ok (.str (Str.ofString "Ratio(" ++ toString p ++ Str.ofString ", " ++ toString q)) := sadd_ok (by rw [Str.length_append, Str.length_append, len_rat, len_com]; omega)
  have r4 : sadd (.str (Str.ofString "Ratio(" ++ toString p ++ Str.ofString ", " ++ toString q)) (.str ")") = .ok (.str (rtxt p q)) := sadd_ok (by rw [Str.length_append, Str.length_append, Str.length_append, len_rat, len_com, len_par]; omega)
  have tx : op2 sadd (.ok (.str (toString p))) (iteR (.ok (!decide (q = 1))) (op2 sadd (.ok (.str "/")) (gstr [.int q])) (.ok (.str ""))) = .ok (.str (txt p q)) := by
    by_cases hq1 : q = 1
    · have z : decide (q = 1) = true := by simpa using hq1
      simp only [op2_ok, sne, z, Bool.not_true, tst_ok, iteR_f, ok_bind, txt, if_pos hq1, c1]
    · have z : decide (q = 1) = false := by simpa using hq1
      simp only [op2_ok, sne, z, Bool.not_false, tst_ok, iteR_t, gstr_int l2, c2, ok_bind, txt, if_neg hq1, c3]
  have e' : decide (p * b = t * q) = true := by simpa using e
  have z1 : decide (q < 1) = false := by simpa using n1
  have z2 : decide (txt p q = txt p q) = true := by simp
  have z3 : decide (rtxt p q = rtxt p q) = true := by simp
  have z4 : ∀ s : Str, decide (s = s) = true := fun s => by simp
  have sg : ∃ i j : Int, bInt [.bl (decide (0 < p))] = .ok (.int i) ∧ bInt [.bl (decide (p < 0))] = .ok (.int j) ∧ i - j = sgn p := by
    refine ⟨_, _, rfl, rfl, ?_⟩
    unfold sgn
    by_cases a1 : p = 0
    · simp [a1]
    · by_cases a2 : 0 < p
      · have a3 : ¬ p < 0 := by omega
        simp [a1, a2, a3]
      · have a3 : p < 0 := by omega
        simp [a1, a2, a3]
  obtain ⟨i, j, s1, s2, s3⟩ := sg
  obtain ⟨w, hw⟩ := bl_repr2 (a := sgn p) (b := decide (q = 1)) sgn_cases
  have sz1 := size_ok h (hq.mono (by decide))
  have mk := init_low (low_abs h) (Nat.lt_trans (hq.log (by decide)) (by decide))
  have kL : ∀ x y : Val, mkL [x, y] = .ok (.lst [x, y]) := fun _ _ => by rfl
  have mth : methM 0 (.ok (R p q)) (.ok []) (.ok []) [0] [] (a1 m_Ratio_size) = m_Ratio_size (R p q) := by rfl
  have mko : (Res.ok (Val.obj 0 [.int (p.natAbs : Int), .int q])) = Res.ok (R (p.natAbs : Int) q) := rfl
  have g2 : decide ((Nat.gcd p.natAbs q.natAbs : Int) = 1) = true := by simpa using g1
  simp only [m_law_is, ok_bind, isO_R, tst_ok, notB_ok, Bool.not_true, rOr, prop_bottom, prop_top, prop_sign, prop_whole, op2_ok, ilt, igt, z1, m1, m2, sne, e', consR_ok, a2_ok, common_ok, g2, if_false, Bool.false_eq_true, iteR_f, gstr_int l1]
  rw [tx]
  simp only [ok_bind, gstr_R l1 l2, grepr_R l1 l2, gstr_int l2, r1, r2, r3, r4, op2_ok, sne, z2, z3, Bool.not_true, tst_ok, if_false, Bool.false_eq_true, iteR_f, s1, s2, isub, s3, consR_ok, kL, hw, seq, z4, vAnd, asB, if_true, mth, sz1, abs_ok, make2, mk, mko, geq_RR, decide_true, Bool.and_self]
/-! ### a number: a fraction or an int, its top, its bottom -/
def Num (v : Val) (t b : Int) : Prop := (v = R t b ∧ Low t b) ∨ (v = .int t ∧ b = 1)
theorem Num.low {v : Val} {t b : Int} (h : Num v t b) : Low t b := by
  rcases h with ⟨_, h⟩ | ⟨_, rfl⟩
  · exact h
  · exact ⟨by decide, by simp⟩
theorem Num.terms {v : Val} {t b : Int} (h : Num v t b) : m_terms v = .ok (.tup [.int t, .int b]) := by
  rcases h with ⟨rfl, _⟩ | ⟨rfl, rfl⟩
  · exact terms_R
  · exact terms_int
/-- what an operation gives: the fraction of x over y -/
def Gives (r : Res Val) (x y : Int) : Prop := ∃ s u, r = .ok (R s u) ∧ Low s u ∧ s * y = x * u ∧ s.natAbs ≤ x.natAbs ∧ u.natAbs ≤ y.natAbs
theorem gives_init {x y : Int} (h0 : y ≠ 0) (hy : B 8000 y) : Gives (m_Ratio_init (.int x) (.int y) >>= fun zs => Res.ok (Val.obj 0 zs)) x y := by
  obtain ⟨p, q, e, h⟩ := made (a := x) h0 (Nat.lt_trans (hy.log (by decide)) (by decide))
  exact ⟨p, q, e, h⟩
section
variable {p q t b : Int} {v : Val} (h : Low p q) (h' : Num v t b) (hp : B 2000 p) (hq : B 2000 q) (ht : B 2000 t) (hb : B 2000 b)
include h h' hp hq ht hb
theorem q_ne : q * b ≠ 0 := Int.mul_ne_zero (by have := h.pos; omega) (by have := h'.low.pos; omega)
theorem add_num : Gives (m_Ratio_add (R p q) v) (p * b + t * q) (q * b) := by
  have e := gives_init (x := p * b + t * q) (q_ne h h' hp hq ht hb) ((hq.mul hb).mono (by decide))
  have m1 := hp.imul hb (by decide) (by decide) (by decide)
  have m2 := ht.imul hq (by decide) (by decide) (by decide)
  have m3 := hq.imul hb (by decide) (by decide) (by decide)
  have z : m_Ratio_add (R p q) v = (m_Ratio_init (.int (p * b + t * q)) (.int (q * b)) >>= fun zs => Res.ok (Val.obj 0 zs)) := by
    simp only [m_Ratio_add, consR_ok, ok_bind, a1_ok, h'.terms, un2_eq, getF0, getF1, op2_ok, m1, m2, m3, iadd, make2]
  rw [z]; exact e
theorem radd_num : Gives (m_Ratio_radd (R p q) v) (t * q + p * b) (b * q) := by
  have hn : b * q ≠ 0 := by rw [Int.mul_comm]; exact q_ne h h' hp hq ht hb
  have e := gives_init (x := t * q + p * b) hn ((hb.mul hq).mono (by decide))
  have m1 := hp.imul hb (by decide) (by decide) (by decide)
  have m2 := ht.imul hq (by decide) (by decide) (by decide)
  have m3 := hb.imul hq (by decide) (by decide) (by decide)
  have z : m_Ratio_radd (R p q) v = (m_Ratio_init (.int (t * q + p * b)) (.int (b * q)) >>= fun zs => Res.ok (Val.obj 0 zs)) := by
    simp only [m_Ratio_radd, consR_ok, ok_bind, a1_ok, h'.terms, un2_eq, getF0, getF1, op2_ok, m1, m2, m3, iadd, make2]
  rw [z]; exact e
theorem sub_num : Gives (m_Ratio_sub (R p q) v) (p * b - t * q) (q * b) := by
  have e := gives_init (x := p * b - t * q) (q_ne h h' hp hq ht hb) ((hq.mul hb).mono (by decide))
  have m1 := hp.imul hb (by decide) (by decide) (by decide)
  have m2 := ht.imul hq (by decide) (by decide) (by decide)
  have m3 := hq.imul hb (by decide) (by decide) (by decide)
  have z : m_Ratio_sub (R p q) v = (m_Ratio_init (.int (p * b - t * q)) (.int (q * b)) >>= fun zs => Res.ok (Val.obj 0 zs)) := by
    simp only [m_Ratio_sub, consR_ok, ok_bind, a1_ok, h'.terms, un2_eq, getF0, getF1, op2_ok, m1, m2, m3, isub, make2]
  rw [z]; exact e
theorem rsub_num : Gives (m_Ratio_rsub (R p q) v) (t * q - p * b) (b * q) := by
  have hn : b * q ≠ 0 := by rw [Int.mul_comm]; exact q_ne h h' hp hq ht hb
  have e := gives_init (x := t * q - p * b) hn ((hb.mul hq).mono (by decide))
  have m1 := hp.imul hb (by decide) (by decide) (by decide)
  have m2 := ht.imul hq (by decide) (by decide) (by decide)
  have m3 := hb.imul hq (by decide) (by decide) (by decide)
  have z : m_Ratio_rsub (R p q) v = (m_Ratio_init (.int (t * q - p * b)) (.int (b * q)) >>= fun zs => Res.ok (Val.obj 0 zs)) := by
    simp only [m_Ratio_rsub, consR_ok, ok_bind, a1_ok, h'.terms, un2_eq, getF0, getF1, op2_ok, m1, m2, m3, isub, make2]
  rw [z]; exact e
theorem mul_num : Gives (m_Ratio_mul (R p q) v) (p * t) (q * b) := by
  have e := gives_init (x := p * t) (q_ne h h' hp hq ht hb) ((hq.mul hb).mono (by decide))
  have m1 := hp.imul ht (by decide) (by decide) (by decide)
  have m3 := hq.imul hb (by decide) (by decide) (by decide)
  have z : m_Ratio_mul (R p q) v = (m_Ratio_init (.int (p * t)) (.int (q * b)) >>= fun zs => Res.ok (Val.obj 0 zs)) := by
    simp only [m_Ratio_mul, consR_ok, ok_bind, a1_ok, h'.terms, un2_eq, getF0, getF1, op2_ok, m1, m3, make2]
  rw [z]; exact e
theorem rmul_num : Gives (m_Ratio_rmul (R p q) v) (t * p) (b * q) := by
  have hn : b * q ≠ 0 := by rw [Int.mul_comm]; exact q_ne h h' hp hq ht hb
  have e := gives_init (x := t * p) hn ((hb.mul hq).mono (by decide))
  have m1 := ht.imul hp (by decide) (by decide) (by decide)
  have m3 := hb.imul hq (by decide) (by decide) (by decide)
  have z : m_Ratio_rmul (R p q) v = (m_Ratio_init (.int (t * p)) (.int (b * q)) >>= fun zs => Res.ok (Val.obj 0 zs)) := by
    simp only [m_Ratio_rmul, consR_ok, ok_bind, a1_ok, h'.terms, un2_eq, getF0, getF1, op2_ok, m1, m3, make2]
  rw [z]; exact e
theorem over_num (h0 : t ≠ 0) : Gives (m_Ratio_over (R p q) v) (p * b) (q * t) := by
  have hn : q * t ≠ 0 := Int.mul_ne_zero (by have := h.pos; omega) h0
  have e := gives_init (x := p * b) hn ((hq.mul ht).mono (by decide))
  have m1 := hp.imul hb (by decide) (by decide) (by decide)
  have m3 := hq.imul ht (by decide) (by decide) (by decide)
  have c : decide (t = 0) = false := by simpa using h0
  have z : m_Ratio_over (R p q) v = (m_Ratio_init (.int (p * b)) (.int (q * t)) >>= fun zs => Res.ok (Val.obj 0 zs)) := by
    simp only [m_Ratio_over, consR_ok, ok_bind, a1_ok, h'.terms, un2_eq, getF0, getF1, op2_ok, seq, c, tst_ok, iteR_f, m1, m3, make2]
  rw [z]; exact e
theorem below_num : m_Ratio_is_below (R p q) v = .ok (.bl (decide (p * b < t * q))) := by
  have m1 := hp.imul hb (by decide) (by decide) (by decide)
  have m2 := ht.imul hq (by decide) (by decide) (by decide)
  simp only [m_Ratio_is_below, consR_ok, ok_bind, a1_ok, h'.terms, un2_eq, getF0, getF1, op2_ok, m1, m2, ilt]
theorem atmost_num : m_Ratio_is_at_most (R p q) v = .ok (.bl (decide (p * b ≤ t * q))) := by
  have m1 := hp.imul hb (by decide) (by decide) (by decide)
  have m2 := ht.imul hq (by decide) (by decide) (by decide)
  simp only [m_Ratio_is_at_most, consR_ok, ok_bind, a1_ok, h'.terms, un2_eq, getF0, getF1, op2_ok, m1, m2, ile]
end
theorem low_neg {p q : Int} (h : Low p q) : Low (-p) q := ⟨h.pos, by simpa using h.gcd⟩
theorem neg_R {p q : Int} (h : Low p q) (hq : B 8000 q) : gneg (R p q) = .ok (R (-p) q) := by
  have e := init_low (low_neg h) (Nat.lt_trans (hq.log (by decide)) (by decide))
  have z : m_Ratio_neg (R p q) = .ok (R (-p) q) := by
    simp only [m_Ratio_neg, ok_bind, getF0, getF1, ineg, consR_ok, make2, e]
    rfl
  show (if (0 : Nat) = 0 then a1 m_Ratio_neg [R p q] else .no) = _
  rw [if_pos rfl, a1_ok, z]
theorem gadd_RR {p q p' q' : Int} : gadd (R p q) (R p' q') = m_Ratio_add (R p q) (R p' q') := by
  show gop 0 iadd (a2 m_Ratio_add) (a2 m_Ratio_radd) (R p q) (R p' q') = _
  simp only [R, gop_oo, a2_ok]
theorem gsub_RR {p q p' q' : Int} : gsub (R p q) (R p' q') = m_Ratio_sub (R p q) (R p' q') := by
  show gop 0 isub (a2 m_Ratio_sub) (a2 m_Ratio_rsub) (R p q) (R p' q') = _
  simp only [R, gop_oo, a2_ok]
theorem gmul_RR {p q p' q' : Int} : gmul (R p q) (R p' q') = m_Ratio_mul (R p q) (R p' q') := by
  show gop 0 imul (a2 m_Ratio_mul) (a2 m_Ratio_rmul) (R p q) (R p' q') = _
  simp only [R, gop_oo, a2_ok]
theorem gadd_RI {p q i : Int} : gadd (R p q) (.int i) = m_Ratio_add (R p q) (.int i) := by
  show gop 0 iadd (a2 m_Ratio_add) (a2 m_Ratio_radd) (R p q) (.int i) = _
  simp only [R, gop_oi, a2_ok]
theorem gsub_RI {p q i : Int} : gsub (R p q) (.int i) = m_Ratio_sub (R p q) (.int i) := by
  show gop 0 isub (a2 m_Ratio_sub) (a2 m_Ratio_rsub) (R p q) (.int i) = _
  simp only [R, gop_oi, a2_ok]
theorem gmul_RI {p q i : Int} : gmul (R p q) (.int i) = m_Ratio_mul (R p q) (.int i) := by
  show gop 0 imul (a2 m_Ratio_mul) (a2 m_Ratio_rmul) (R p q) (.int i) = _
  simp only [R, gop_oi, a2_ok]
theorem gadd_IR {p q i : Int} : gadd (.int i) (R p q) = m_Ratio_radd (R p q) (.int i) := by
  show gop 0 iadd (a2 m_Ratio_add) (a2 m_Ratio_radd) (.int i) (R p q) = _
  simp only [R, gop_io, a2_ok]
theorem gsub_IR {p q i : Int} : gsub (.int i) (R p q) = m_Ratio_rsub (R p q) (.int i) := by
  show gop 0 isub (a2 m_Ratio_sub) (a2 m_Ratio_rsub) (.int i) (R p q) = _
  simp only [R, gop_io, a2_ok]
theorem gmul_IR {p q i : Int} : gmul (.int i) (R p q) = m_Ratio_rmul (R p q) (.int i) := by
  show gop 0 imul (a2 m_Ratio_mul) (a2 m_Ratio_rmul) (.int i) (R p q) = _
  simp only [R, gop_io, a2_ok]
theorem gne_RR {p q p' q' : Int} : gne_ (R p q) (R p' q') = .ok (.bl (!(decide (p = p') && decide (q = q')))) := by
  show gop 0 sne (fun xs => notV (a2 m_Ratio_eq xs)) (fun _ => .no) (R p q) (R p' q') = _
  have := eq_RR (p := p) (q := q) (p' := p') (q' := q')
  simp only [R] at this ⊢
  simp only [gop_oo, a2_ok, this, notV_ok]
theorem geq_RI {p q i : Int} : geq_ (R p q) (.int i) = .ok (.bl false) := by
  show gop 0 seq (a2 m_Ratio_eq) (fun _ => .no) (R p q) (.int i) = _
  have : m_Ratio_eq (R p q) (.int i) = .ok (.bl false) := by rfl
  simp only [R] at this ⊢
  simp only [gop_oi, a2_ok, this]
end Mir
namespace Mir
open PySem PySem.Spec PyProof.Rows L2
theorem gives_is {r : Res Val} {x y t b : Int} (g : Gives r x y) (hy : y ≠ 0) (hx : B 1800 x) (hyB : B 1800 y) (ht : B 4000 t) (hb : B 4000 b) (e : x * b = t * y) : ∃ v, r = .ok v ∧ m_law_is v (.int t) (.int b) = .ok (.bl true) := by
  obtain ⟨s, u, rfl, l, h, h1, h2⟩ := g
  refine ⟨_, rfl, law_is_ok l (hx.le h1) (hyB.le h2) ht hb ?_⟩
  refine Int.eq_of_mul_eq_mul_right hy ?_
  grind
theorem vix0 {a b : Val} : vix (.tup [a, b]) (.int 0) = .ok a := by rfl
theorem vix1 {a b : Val} : vix (.tup [a, b]) (.int 1) = .ok b := by rfl
/-- the same signs -/
theorem signs {w d q s : Int} (hq : 0 < q) (hs : 0 < s) (e : w * q = d * s) : (w < 0 ↔ d < 0) ∧ (w ≤ 0 ↔ d ≤ 0) ∧ (0 < w ↔ 0 < d) ∧ (w = 0 ↔ d = 0) := by
  have a1 : w < 0 ↔ d < 0 := by
    rw [← Int.mul_lt_mul_right hq, ← Int.mul_lt_mul_right (b := d) hs, e, Int.zero_mul, Int.zero_mul]
  have a2 : 0 < w ↔ 0 < d := by
    rw [← Int.mul_lt_mul_right hq, ← Int.mul_lt_mul_right (c := d) hs, e, Int.zero_mul, Int.zero_mul]
  refine ⟨a1, ?_, a2, ?_⟩ <;> omega
theorem bl_repr5 {a b c d e : Bool} : ∃ s, grepr [.lst [.bl a, .bl b, .bl c, .bl d, .bl e]] = .ok (.str s) := by
  cases a <;> cases b <;> cases c <;> cases d <;> cases e <;> exact ⟨_, rfl⟩
theorem bl_repr22 {a b : Bool} : ∃ s, grepr [.lst [.bl a, .bl b]] = .ok (.str s) := by
  cases a <;> cases b <;> exact ⟨_, rfl⟩
theorem sq_pos {x : Int} (h : x ≠ 0) : 0 < x * x := by
  rcases Int.lt_or_gt_of_ne h with h | h
  · exact Int.mul_pos_of_neg_of_neg h h
  · exact Int.mul_pos h h
theorem B.small {x : Int} {k : Nat} (h : x.natAbs < 10 ^ 45) (hk : 150 ≤ k) : B k x := Nat.lt_of_lt_of_le h (Nat.le_trans (by decide) (Nat.pow_le_pow_right (by decide) hk))
theorem two_ok {a b c d : Int} (hb : b ≠ 0) (hd : d ≠ 0) (Ba : B 160 a) (Bb : B 160 b) (Bc : B 160 c) (Bd : B 160 d) : m_law_two_right (.tup [.int a, .int b]) (.tup [.int c, .int d]) = .ok (.bl true) := by
  obtain ⟨p, q, e1, l1, x1, y1, z1⟩ := made (a := a) hb (Nat.lt_trans (Bb.log (by decide)) (by decide))
  obtain ⟨p', q', e2, l2, x2, y2, z2⟩ := made (a := c) hd (Nat.lt_trans (Bd.log (by decide)) (by decide))
  have Bp := Ba.le y1
  have Bq := Bb.le z1
  have Bp' := Bc.le y2
  have Bq' := Bd.le z2
  have q0 := l1.pos
  have q0' := l2.pos
  have n2 : Num (R p' q') p' q' := .inl ⟨rfl, l2⟩
  have n1 : Num (R p q) p q := .inl ⟨rfl, l1⟩
  have up : ∀ {x : Int}, B 160 x → B 2000 x := fun h => h.mono (by decide)
  have qq : q * q' ≠ 0 := Int.mul_ne_zero (by omega) (by omega)
  have Mad := Ba.imul Bd (by decide) (by decide) (by decide)
  have Mcb := Bc.imul Bb (by decide) (by decide) (by decide)
  have Mbd := Bb.imul Bd (by decide) (by decide) (by decide)
  have Mac := Ba.imul Bc (by decide) (by decide) (by decide)
  have Mbc := Bb.imul Bc (by decide) (by decide) (by decide)
  have Bqq := Bq.mul Bq'
  obtain ⟨v1, r1, w1⟩ := gives_is (add_num l1 n2 (up Bp) (up Bq) (up Bp') (up Bq')) (t := a * d + c * b) (b := b * d) qq (((Bp.mul Bq').add (Bp'.mul Bq)).mono (by decide)) (Bqq.mono (by decide)) (((Ba.mul Bd).add (Bc.mul Bb)).mono (by decide)) ((Bb.mul Bd).mono (by decide)) (by grind)
  obtain ⟨v2, r2, w2⟩ := gives_is (sub_num l1 n2 (up Bp) (up Bq) (up Bp') (up Bq')) (t := a * d - c * b) (b := b * d) qq (((Bp.mul Bq').sub (Bp'.mul Bq)).mono (by decide)) (Bqq.mono (by decide)) (((Ba.mul Bd).sub (Bc.mul Bb)).mono (by decide)) ((Bb.mul Bd).mono (by decide)) (by grind)
  obtain ⟨v3, r3, w3⟩ := gives_is (mul_num l1 n2 (up Bp) (up Bq) (up Bp') (up Bq')) (t := a * c) (b := b * d) qq ((Bp.mul Bp').mono (by decide)) (Bqq.mono (by decide)) ((Ba.mul Bc).mono (by decide)) ((Bb.mul Bd).mono (by decide)) (by grind)
  have w0 := law_is_ok l1 (Bp.mono (by decide)) (Bq.mono (by decide)) (Ba.mono (by decide)) (Bb.mono (by decide)) x1
  have w4 := law_is_ok (low_neg l1) (t := 0 - a) (b := b) (Bp.neg.mono (by decide)) (Bq.mono (by decide)) ((show B 161 (0 - a) from (show B 160 0 by unfold B; decide).sub Ba).mono (by decide)) (Bb.mono (by decide)) (by grind)
  have ov : c ≠ 0 → ∃ v, m_Ratio_over (R p q) (R p' q') = .ok v ∧ m_law_is v (.int (a * d)) (.int (b * c)) = .ok (.bl true) := by
    intro hc
    have hp' : p' ≠ 0 := fun z => by
      subst z
      have : c * q' = 0 := by rw [← x2, Int.zero_mul]
      rcases Int.mul_eq_zero.mp this with z | z <;> omega
    exact gives_is (over_num l1 n2 (up Bp) (up Bq) (up Bp') (up Bq') hp') (t := a * d) (b := b * c) (Int.mul_ne_zero (by omega) hp') ((Bp.mul Bq').mono (by decide)) ((Bq.mul Bp').mono (by decide)) ((Ba.mul Bd).mono (by decide)) ((Bb.mul Bc).mono (by decide)) (by grind)
  have b1 := below_num l1 n2 (up Bp) (up Bq) (up Bp') (up Bq')
  have b2 := atmost_num l1 n2 (up Bp) (up Bq) (up Bp') (up Bq')
  have b3 := below_num l2 n1 (up Bp') (up Bq') (up Bp) (up Bq)
  have sg := signs (w := (a * d - c * b) * b * d) (d := p * q' - p' * q) (q := q * q') (s := (b * d) * (b * d)) (Int.mul_pos q0 q0') (sq_pos (Int.mul_ne_zero hb hd)) (by grind)
  obtain ⟨g1, g2, g3, g4⟩ := sg
  have eqv : (decide (p = p') && decide (q = q')) = decide ((a * d - c * b) * b * d = 0) := by
    by_cases h : (a * d - c * b) * b * d = 0
    · have h2 := g4.mp h
      obtain ⟨h3, h4⟩ := low_uniq l1 l2 (show p * q' = p' * q by omega)
      rw [decide_eq_true h, decide_eq_true h3, decide_eq_true h4]; rfl
    · rw [decide_eq_false h]
      by_cases h3 : p = p'
      · by_cases h4 : q = q'
        · exact absurd (g4.mpr (by rw [h3, h4]; omega)) h
        · rw [decide_eq_false h4, Bool.and_false]
      · rw [decide_eq_false h3, Bool.false_and]
  have d1 : decide (p * q' < p' * q) = decide ((a * d - c * b) * b * d < 0) := decide_eq_decide.mpr (by rw [g1]; omega)
  have d2 : decide (p * q' ≤ p' * q) = decide ((a * d - c * b) * b * d ≤ 0) := decide_eq_decide.mpr (by rw [g2]; omega)
  have d3 : decide (p' * q < p * q') = decide (0 < (a * d - c * b) * b * d) := decide_eq_decide.mpr (by rw [g3]; omega)
  have M1 : imul (.int (a * d - c * b)) (.int b) = .ok (.int ((a * d - c * b) * b)) := ((Ba.mul Bd).sub (Bc.mul Bb)).imul Bb (by decide) (by decide) (by decide)
  have M2 : imul (.int ((a * d - c * b) * b)) (.int d) = .ok (.int ((a * d - c * b) * b * d)) := (((Ba.mul Bd).sub (Bc.mul Bb)).mul Bb).imul Bd (by decide) (by decide) (by decide)
  have kT : mkT [.tup [.int a, .int b], .tup [.int c, .int d]] = .ok (.tup [.tup [.int a, .int b], .tup [.int c, .int d]]) := by rfl
  have kL : ∀ x1 x2 x3 x4 x5 : Val, mkL [x1, x2, x3, x4, x5] = .ok (.lst [x1, x2, x3, x4, x5]) := fun _ _ _ _ _ => by rfl
  have mO : methM 0 (.ok (R p q)) (.ok []) (.ok [R p' q']) [0, 1] [] (a2 m_Ratio_over) = m_Ratio_over (R p q) (R p' q') := by rfl
  have mB : ∀ v v' : Val, ∀ p q : Int, methM 0 (.ok (R p q)) (.ok [v]) (.ok []) [0, 1] [] (a2 m_Ratio_is_below) = m_Ratio_is_below (R p q) v := fun _ _ _ _ => by rfl
  have mA : methM 0 (.ok (R p q)) (.ok [R p' q']) (.ok []) [0, 1] [] (a2 m_Ratio_is_at_most) = m_Ratio_is_at_most (R p q) (R p' q') := by rfl
  have mB2 : methM 0 (.ok (R p' q')) (.ok []) (.ok [R p q]) [0, 1] [] (a2 m_Ratio_is_below) = m_Ratio_is_below (R p' q') (R p q) := by rfl
  have ng := neg_R l1 (Bq.mono (by decide))
  obtain ⟨s, hs⟩ := bl_repr5 (a := decide ((a * d - c * b) * b * d < 0)) (b := decide ((a * d - c * b) * b * d ≤ 0)) (c := decide (0 < (a * d - c * b) * b * d)) (d := decide ((a * d - c * b) * b * d = 0)) (e := !decide ((a * d - c * b) * b * d = 0))
  have s0 : decide (s = s) = true := by simp
  have tail : rAnd (tst (sne (.int c) (.int 0))) (notB (tst (consR (methM 0 (.ok (R p q)) (.ok []) (.ok [R p' q']) [0, 1] [] (a2 m_Ratio_over)) (.ok [.int (a * d), .int (b * c)]) >>= a3 m_law_is))) = .ok false := by
    by_cases hc : c = 0
    · have z : decide (c = 0) = true := by simpa using hc
      simp only [sne, z, Bool.not_true, tst_ok, rAnd, ok_bind, Bool.false_eq_true, if_false]
    · have z : decide (c = 0) = false := by simpa using hc
      obtain ⟨v, o1, o2⟩ := ov hc
      simp only [sne, z, Bool.not_false, tst_ok, rAnd, ok_bind, if_true, mO, o1, consR_ok, a3_ok, o2, notB_ok, Bool.not_true]
  simp only [m_law_two_right, op2_ok, vix0, vix1, consR_ok, make2, makeK, e1, e2, ok_bind, kT, un2_eq, a3_ok, w0, tst_ok, notB_ok, Bool.not_true, rOr, Bool.false_eq_true, if_false, gadd_RR, gsub_RR, gmul_RR, r1, r2, r3, Mad, Mcb, Mbd, Mac, Mbc, iadd, isub, w1, w2, w3, iteR_f, ng, w4]
  rw [tail]
  simp only [iteR_f, M1, op2_ok, M2, ok_bind, mB _ .non, mA, mB2, b1, b2, b3, d1, d2, d3, geq_RR, gne_RR, eqv, consR_ok, kL, ilt, ile, igt, seq, sne, hs, decide_true]
/-- an int beside a fraction -/
theorem whole_right_ok {a b w : Int} (hb : b ≠ 0) (Ba : B 160 a) (Bb : B 160 b) (Bw : B 160 w) : m_law_whole_right (.tup [.int a, .int b]) (.int w) = .ok (.bl true) := by
  obtain ⟨p, q, e1, l1, x1, y1, z1⟩ := made (a := a) hb (Nat.lt_trans (Bb.log (by decide)) (by decide))
  have Bp := Ba.le y1
  have Bq := Bb.le z1
  have q0 := l1.pos
  have n2 : Num (.int w) w 1 := .inr ⟨rfl, rfl⟩
  have lw : Low w 1 := n2.low
  have B1 : B 160 1 := by unfold B; decide
  have up : ∀ {x : Int}, B 160 x → B 2000 x := fun h => h.mono (by decide)
  have Mwb := Bw.imul Bb (by decide) (by decide) (by decide)
  have Mwa := Bw.imul Ba (by decide) (by decide) (by decide)
  have Mbw := Bb.imul Bw (by decide) (by decide) (by decide)
  have q1 : q * 1 ≠ 0 := by omega
  have q1' : 1 * q ≠ 0 := by omega
  have Bq1 := Bq.mul B1
  have Bq1' := B1.mul Bq
  have Ba' : B 320 a := Ba.mono (by decide)
  obtain ⟨v1, r1, w1⟩ := gives_is (add_num l1 n2 (up Bp) (up Bq) (up Bw) (up B1)) (t := a + w * b) (b := b) q1 (((Bp.mul B1).add (Bw.mul Bq)).mono (by decide)) (Bq1.mono (by decide)) ((Ba'.add (Bw.mul Bb)).mono (by decide)) (Bb.mono (by decide)) (by grind)
  obtain ⟨v2, r2, w2⟩ := gives_is (radd_num l1 n2 (up Bp) (up Bq) (up Bw) (up B1)) (t := a + w * b) (b := b) q1' (((Bw.mul Bq).add (Bp.mul B1)).mono (by decide)) (Bq1'.mono (by decide)) ((Ba'.add (Bw.mul Bb)).mono (by decide)) (Bb.mono (by decide)) (by grind)
  obtain ⟨v3, r3, w3⟩ := gives_is (rsub_num l1 n2 (up Bp) (up Bq) (up Bw) (up B1)) (t := w * b - a) (b := b) q1' (((Bw.mul Bq).sub (Bp.mul B1)).mono (by decide)) (Bq1'.mono (by decide)) (((Bw.mul Bb).sub Ba').mono (by decide)) (Bb.mono (by decide)) (by grind)
  obtain ⟨v4, r4, w4⟩ := gives_is (sub_num l1 n2 (up Bp) (up Bq) (up Bw) (up B1)) (t := a - w * b) (b := b) q1 (((Bp.mul B1).sub (Bw.mul Bq)).mono (by decide)) (Bq1.mono (by decide)) ((Ba'.sub (Bw.mul Bb)).mono (by decide)) (Bb.mono (by decide)) (by grind)
  obtain ⟨v5, r5, w5⟩ := gives_is (rmul_num l1 n2 (up Bp) (up Bq) (up Bw) (up B1)) (t := w * a) (b := b) q1' ((Bw.mul Bp).mono (by decide)) (Bq1'.mono (by decide)) ((Bw.mul Ba).mono (by decide)) (Bb.mono (by decide)) (by grind)
  obtain ⟨v6, r6, w6⟩ := gives_is (mul_num l1 n2 (up Bp) (up Bq) (up Bw) (up B1)) (t := w * a) (b := b) q1 ((Bp.mul Bw).mono (by decide)) (Bq1.mono (by decide)) ((Bw.mul Ba).mono (by decide)) (Bb.mono (by decide)) (by grind)
  have ov : w ≠ 0 → ∃ v, m_Ratio_over (R p q) (.int w) = .ok v ∧ m_law_is v (.int a) (.int (b * w)) = .ok (.bl true) := fun hw =>
    gives_is (over_num l1 n2 (up Bp) (up Bq) (up Bw) (up B1) hw) (t := a) (b := b * w) (Int.mul_ne_zero (by omega) hw) ((Bp.mul B1).mono (by decide)) ((Bq.mul Bw).mono (by decide)) (Ba.mono (by decide)) ((Bb.mul Bw).mono (by decide)) (by grind)
  have iw := init_low lw (by decide)
  have w7 := law_is_ok lw (t := w) (b := 1) (Bw.mono (by decide)) (B1.mono (by decide)) (Bw.mono (by decide)) (B1.mono (by decide)) rfl
  have b1 := below_num l1 n2 (up Bp) (up Bq) (up Bw) (up B1)
  have b2 := atmost_num l1 n2 (up Bp) (up Bq) (up Bw) (up B1)
  obtain ⟨g1, g2, g3, g4⟩ := signs (w := (a - w * b) * b) (d := p * 1 - w * q) (q := q) (s := b * b) q0 (sq_pos hb) (by grind)
  have d1 : decide (p * 1 < w * q) = decide ((a - w * b) * b < 0) := decide_eq_decide.mpr (by rw [g1]; omega)
  have d2 : decide (p * 1 ≤ w * q) = decide ((a - w * b) * b ≤ 0) := decide_eq_decide.mpr (by rw [g2]; omega)
  have M1 : imul (.int (a - w * b)) (.int b) = .ok (.int ((a - w * b) * b)) := (Ba'.sub (Bw.mul Bb)).imul Bb (by decide) (by decide) (by decide)
  have kT : ∀ x y : Val, mkT [x, y] = .ok (.tup [x, y]) := fun _ _ => by rfl
  have kL : ∀ x y : Val, mkL [x, y] = .ok (.lst [x, y]) := fun _ _ => by rfl
  have mO : methM 0 (.ok (R p q)) (.ok [.int w]) (.ok []) [0, 1] [] (a2 m_Ratio_over) = m_Ratio_over (R p q) (.int w) := by rfl
  have mB : methM 0 (.ok (R p q)) (.ok [.int w]) (.ok []) [0, 1] [] (a2 m_Ratio_is_below) = m_Ratio_is_below (R p q) (.int w) := by rfl
  have mA : methM 0 (.ok (R p q)) (.ok [.int w]) (.ok []) [0, 1] [] (a2 m_Ratio_is_at_most) = m_Ratio_is_at_most (R p q) (.int w) := by rfl
  obtain ⟨s, hs⟩ := bl_repr22 (a := decide ((a - w * b) * b < 0)) (b := decide ((a - w * b) * b ≤ 0))
  have s0 : decide (s = s) = true := by simp
  have tail : rAnd (tst (sne (.int w) (.int 0))) (notB (tst (consR (m_Ratio_over (R p q) (.int w)) (.ok [.int a, .int (b * w)]) >>= a3 m_law_is))) = .ok false := by
    by_cases hc : w = 0
    · have z : decide (w = 0) = true := by simpa using hc
      simp only [sne, z, Bool.not_true, tst_ok, rAnd, ok_bind, Bool.false_eq_true, if_false]
    · have z : decide (w = 0) = false := by simpa using hc
      obtain ⟨v, o1, o2⟩ := ov hc
      simp only [sne, z, Bool.not_false, tst_ok, rAnd, ok_bind, if_true, o1, consR_ok, a3_ok, o2, notB_ok, Bool.not_true]
  have rw1 : (Res.ok (Val.obj 0 [.int w, .int 1])) = Res.ok (R w 1) := rfl
  have nb : vNotB (.bl false) (.bl false) = .ok (.bl false) := by rfl
  simp only [m_law_whole_right, op2_ok, vix0, vix1, consR_ok, make2, make1, e1, ok_bind, kT, un2_eq, a3_ok, tst_ok, notB_ok, Bool.not_true, rOr, Bool.false_eq_true, if_false, gadd_RI, gadd_IR, gsub_RI, gsub_IR, gmul_RI, gmul_IR, r1, r2, r3, r4, r5, r6, Mwb, Mwa, Mbw, iadd, isub, w1, w2, w3, w4, w5, w6, iteR_f, mO]
  rw [tail]
  simp only [iteR_f, iw, ok_bind, rw1, consR_ok, a3_ok, w7, tst_ok, notB_ok, Bool.not_true, geq_RI, op2_ok, nb, Bool.false_eq_true, if_false, M1, mB, mA, b1, b2, d1, d2, kL, hs, ilt, ile, seq, decide_true]
end Mir
namespace Mir
open PySem PySem.Spec PyProof.Rows L2
/-! ### a sum of many -/
abbrev Pr := Int × Int
def S (L : Int) (ps : List Pr) : Int := (ps.map fun x => x.1 * (L.fdiv x.2)).sum
/-- numbers and their tops and bottoms -/
inductive Nums : List Val → List Pr → Prop where
  | nil : Nums [] []
  | cons {v : Val} {t b : Int} {vs : List Val} {ps : List Pr} (h : Num v t b) (ht : B 160 t) (hb : B 160 b) (r : Nums vs ps) : Nums (v :: vs) ((t, b) :: ps)
theorem Nums.snoc {vs : List Val} {ps : List Pr} {v : Val} {t b : Int} (h : Nums vs ps) (hv : Num v t b) (ht : B 160 t) (hb : B 160 b) : Nums (vs ++ [v]) (ps ++ [(t, b)]) := by
  induction h with
  | nil => exact .cons hv ht hb .nil
  | cons h1 h2 h3 _ ih => exact .cons h1 h2 h3 ih
theorem Nums.len {vs : List Val} {ps : List Pr} (h : Nums vs ps) : vs.length = ps.length := by
  induction h with
  | nil => rfl
  | cons _ _ _ _ ih => simp [ih]
def tups (ps : List Pr) : List Val := ps.map fun x => .tup [.int x.1, .int x.2]
theorem mapR_cons {f : Val → Res Val} {x y : Val} {xs ys : List Val} (h : f x = .ok y) (h2 : mapR f xs = .ok ys) : mapR f (x :: xs) = .ok (y :: ys) := by
  unfold mapR at h2 ⊢
  simp only [collect, h, ok_bind, nx_ok, h2, oCons]
theorem mapR2_cons {f : Val → Val → Res Val} {a b y : Val} {xs ys : List Val} (h : f a b = .ok y) (h2 : mapR2 f xs = .ok ys) : mapR2 f (.tup [a, b] :: xs) = .ok (y :: ys) := by
  unfold mapR2 at h2 ⊢
  simp only [collect, un2_eq, h, ok_bind, nx_ok, h2, oCons]
theorem Nums.terms {vs : List Val} {ps : List Pr} (h : Nums vs ps) : mapR (fun v2_number => ((consR (.ok v2_number) (.ok [])) >>= (a1 m_terms))) vs = .ok (tups ps) := by
  induction h with
  | nil => rfl
  | cons h1 _ _ _ ih =>
    exact mapR_cons (by simp only [consR_ok, ok_bind, a1_ok, h1.terms]) ih
theorem B1 {k : Nat} (h : 1 ≤ k) : B k 1 := by
  unfold B
  exact Nat.lt_of_lt_of_le (by decide) (Nat.pow_le_pow_right (by decide) h)
/-- the common bottom -/
theorem lcm_loop (k : Val → Res Val) : ∀ {vs : List Val} {ps : List Pr}, Nums vs ps → ∀ (L : Nat) (n : Nat), 0 < L → B (160 * n + 1) (L : Int) → n + ps.length ≤ 20 →
    ∃ M : Nat, m_Ratio_total_l1 k (tups ps) (.int L) = k (.int M) ∧ 0 < M ∧ L ∣ M ∧ (∀ x ∈ ps, x.2 ∣ (M : Int)) ∧ B (160 * (n + ps.length) + 1) (M : Int) := by
  intro vs ps h
  induction h with
  | nil => intro L n h0 hB _; exact ⟨L, rfl, h0, Nat.dvd_refl _, by simp, hB⟩
  | @cons v t b vs ps h1 h2 h3 _ ih =>
    intro L n h0 hB hn
    have b0 := h1.low.pos
    have hL : B (160 * (n + 1) + 1) ((Nat.lcm L b.natAbs : Nat) : Int) := by
      have : Nat.lcm L b.natAbs ≤ L * b.natAbs := Nat.div_le_self _ _
      have hm : B (160 * n + 1 + 160) ((L : Int) * b) := hB.mul h3
      refine (hm.mono (by omega)).le ?_
      rw [Int.natAbs_mul]
      simpa using this
    simp only [List.length_cons] at hn
    obtain ⟨M, e, m0, d1, d2, hM⟩ := ih (Nat.lcm L b.natAbs) (n + 1) (Nat.lcm_pos h0 (by omega)) hL (by omega)
    refine ⟨M, ?_, m0, Nat.dvd_trans (Nat.dvd_lcm_left _ _) d1, ?_, ?_⟩
    · rw [← e]
      have hl : lcmZ (L : Int) b = .ok (.int ((Nat.lcm L b.natAbs : Nat) : Int)) := by
        refine if_pos ⟨?_, ?_⟩
        · exact Nat.lt_of_lt_of_le (hB.log (by omega)) (by omega)
        · exact Nat.lt_of_lt_of_le (h3.log (by decide)) (by decide)
      show m_Ratio_total_l1 k (.tup [.int t, .int b] :: tups ps) (.int L) = _
      simp only [m_Ratio_total_l1, op2_ok, vix1, consR_ok, ok_bind, bLcm, hl]
    · intro x hx
      rcases List.mem_cons.mp hx with rfl | hx
      · have : b.natAbs ∣ M := Nat.dvd_trans (Nat.dvd_lcm_right _ _) d1
        exact Int.natAbs_dvd.mp (Int.ofNat_dvd.mpr this)
      · exact d2 x hx
    · have : n + (ps.length + 1) = n + 1 + ps.length := by omega
      rw [List.length_cons, this]; exact hM
theorem sum_ints {L : Int} (hL : B 4000 L) : ∀ {vs : List Val} {ps : List Pr}, Nums vs ps → (∀ x ∈ ps, x.2 ∣ L) →
    mapR2 (fun v10_top v11_bottom => (op2 imul (.ok v10_top) (op2 ifdiv (.ok (.int L)) (.ok v11_bottom)))) (tups ps) = .ok (ps.map fun x => .int (x.1 * L.fdiv x.2)) := by
  intro vs ps h
  induction h with
  | nil => intro _; rfl
  | @cons v t b vs ps h1 h2 h3 _ ih =>
    intro hd
    have b0 := h1.low.pos
    have ih' := ih fun x hx => hd x (List.mem_cons_of_mem _ hx)
    have dv := hd (t, b) List.mem_cons_self
    have e1 : fdivZ L b = .ok (.int (L.fdiv b)) := if_pos ⟨by omega, Nat.lt_trans (h3.log (by decide)) (by decide)⟩
    have hq : L.fdiv b * b = L := dvd_fdiv dv (by omega)
    have Bq : B 4000 (L.fdiv b) := hL.le (by
      have h4 : L.natAbs = (L.fdiv b).natAbs * b.natAbs := by rw [← Int.natAbs_mul, hq]
      rw [h4]; exact Nat.le_mul_of_pos_right _ (by omega))
    have e2 := h2.imul Bq (by decide) (by decide) (by decide)
    exact mapR2_cons (by simp only [op2_ok, ifdiv, e1, e2]) ih'
theorem intsOf_map : ∀ l : List Int, intsOf (l.map Val.int) = some l
  | [] => rfl
  | x :: l => by simp [intsOf, intsOf_map l]
theorem S_B {L : Int} {n : Nat} (hn : 1 ≤ n) (hL : B n L) : ∀ {vs : List Val} {ps : List Pr}, Nums vs ps → (∀ x ∈ ps, x.2 ∣ L) → B (n + 160 + ps.length) (S L ps) := by
  intro vs ps h
  induction h with
  | nil => intro _; show B _ 0; unfold B; exact Nat.two_pow_pos _
  | @cons v t b vs ps h1 h2 h3 _ ih =>
    intro hd
    have b0 := h1.low.pos
    have dv := hd (t, b) List.mem_cons_self
    have hq : L.fdiv b * b = L := dvd_fdiv dv (by omega)
    have Bq : B n (L.fdiv b) := hL.le (by
      have h4 : L.natAbs = (L.fdiv b).natAbs * b.natAbs := by rw [← Int.natAbs_mul, hq]
      rw [h4]; exact Nat.le_mul_of_pos_right _ (by omega))
    have e2 := ih fun x hx => hd x (List.mem_cons_of_mem _ hx)
    have e1 : B (n + 160 + ps.length) (t * L.fdiv b) := (h2.mul Bq).mono (by omega)
    show B (n + 160 + (ps.length + 1)) (t * L.fdiv b + S L ps)
    exact e1.add e2
/-- the sum: its lowest terms are those of T over U where all sums are so -/
theorem total_ok {vs : List Val} {ps : List Pr} (h : Nums vs ps) (hn : ps.length ≤ 5) {T U : Int} (hT : B 1000 T) (hU : B 1000 U) (hs : ∀ L, (∀ x ∈ ps, x.2 ∣ L) → S L ps * U = T * L) :
    (∃ v, m_Ratio_total (.cls 0) (.lst vs) = .ok v ∧ m_law_is v (.int T) (.int U) = .ok (.bl true)) ∧ ∃ v, m_Ratio_total (.cls 0) (.tup vs) = .ok v ∧ m_law_is v (.int T) (.int U) = .ok (.bl true) := by
  have hl := h.len
  have lim : (vs.length ≤ LIM) := Nat.le_trans (by omega) (show 5 ≤ LIM by decide)
  have lim2 : ((tups ps).length ≤ LIM) := by
    unfold tups
    rw [List.length_map]
    exact Nat.le_trans hn (show 5 ≤ LIM by decide)
  have i1 : items (.lst vs) = .ok vs := if_pos lim
  have i2 : items (.tup vs) = .ok vs := if_pos lim
  have i3 : items (.lst (tups ps)) = .ok (tups ps) := if_pos lim2
  obtain ⟨M, e, m0, _, d2, hM⟩ := lcm_loop (fun v4_s => (onCls 0 (.cls 0) (makeM 0 (consR ((consR (asL (((.ok (.lst (tups ps))) >>= items) >>= mapR2 (fun v10_top v11_bottom => (op2 imul (.ok v10_top) (op2 ifdiv (.ok v4_s) (.ok v11_bottom)))))) (.ok [])) >>= bSum) (consR (.ok v4_s) (.ok []))) (.ok []) [0, 1] [.int 1] (Mir.i2 m_Ratio_init)))) h 1 0 (by decide) (B1 (by decide)) (by omega)
  have hM' : B 900 (M : Int) := hM.mono (by omega)
  have si := sum_ints (hM'.mono (by decide)) h d2
  have bs : bSum [.lst (ps.map fun x => .int (x.1 * (M : Int).fdiv x.2))] = .ok (.int (S M ps)) := by
    have : intsOf (ps.map fun x => Val.int (x.1 * (M : Int).fdiv x.2)) = some (ps.map fun x => x.1 * (M : Int).fdiv x.2) := by
      rw [← intsOf_map, List.map_map]; rfl
    show (match intsOf (ps.map fun x => Val.int (x.1 * (M : Int).fdiv x.2)) with | some ns => Res.ok (Val.int ns.sum) | none => .no) = _
    rw [this]; rfl
  have mne : (M : Int) ≠ 0 := by omega
  have BS : B 1100 (S M ps) := (S_B (by decide) hM' h d2).mono (by omega)
  obtain ⟨v, r, w⟩ := gives_is (gives_init (x := S M ps) mne (hM'.mono (by decide))) mne (BS.mono (by decide)) (hM'.mono (by decide)) (t := T) (b := U) (hT.mono (by decide)) (hU.mono (by decide)) (hs M d2)
  have e' : m_Ratio_total_l1 (fun v4_s => (onCls 0 (.cls 0) (makeM 0 (consR ((consR (asL (((.ok (.lst (tups ps))) >>= items) >>= mapR2 (fun v10_top v11_bottom => (op2 imul (.ok v10_top) (op2 ifdiv (.ok v4_s) (.ok v11_bottom)))))) (.ok [])) >>= bSum) (consR (.ok v4_s) (.ok []))) (.ok []) [0, 1] [.int 1] (Mir.i2 m_Ratio_init)))) (tups ps) (.int 1) = .ok v := by
    refine e.trans ?_
    simp only [onCls_eq, ok_bind, i3, si, asL, consR_ok, bs, make2, r]
  simp only [ok_bind, i3, asL] at e'
  have t1 : isLT 1 (.lst vs) = .ok (.bl true) := rfl
  have t2 : isLT 1 (.tup vs) = .ok (.bl true) := rfl
  refine ⟨⟨v, ?_, w⟩, v, ?_, w⟩
  · simp only [m_Ratio_total, ok_bind, t1, tst_ok, notB_ok, Bool.not_true, iteR_f, i1, h.terms, asL, i3, e']
  · simp only [m_Ratio_total, ok_bind, t2, tst_ok, notB_ok, Bool.not_true, iteR_f, i2, h.terms, asL, i3, e']
end Mir
namespace Mir
open PySem PySem.Spec PyProof.Rows L2
theorem S_snoc {L : Int} {ps : List Pr} {x : Pr} : S L (ps ++ [x]) = S L ps + x.1 * L.fdiv x.2 := by
  simp [S, List.sum_append]
structure Tot (told : List Val) (n : Nat) (T U : Int) : Prop where
  ex : ∃ ps, Nums told ps ∧ ps.length = n ∧ ∀ L, (∀ x ∈ ps, x.2 ∣ L) → S L ps * U = T * L
  t : B (161 * n + 1) T
  u : B (161 * n + 1) U
theorem Tot.int {told : List Val} {n : Nat} {T U w : Int} (h : Tot told n T U) (hw : B 20 w) : Tot (told ++ [.int w]) (n + 1) (T + w * U) U := by
  obtain ⟨⟨ps, h1, h2, h3⟩, ht, hu⟩ := h
  refine ⟨⟨ps ++ [(w, 1)], h1.snoc (.inr ⟨rfl, rfl⟩) (hw.mono (by decide)) (B1 (by decide)), by simp [h2], fun L hd => ?_⟩, ?_, hu.mono (by omega)⟩
  · have e := h3 L fun x hx => hd x (List.mem_append_left _ hx)
    rw [S_snoc]
    show (S L ps + w * L.fdiv 1) * U = (T + w * U) * L
    rw [Int.fdiv_one]
    grind
  · have a := (hw.mul hu).mono (show 20 + (161 * n + 1) ≤ 161 * n + 160 by omega)
    have b := ht.mono (show 161 * n + 1 ≤ 161 * n + 160 by omega)
    exact (b.add a).mono (by omega)
theorem Tot.frac {told : List Val} {n : Nat} {T U a b p q : Int} (h : Tot told n T U) (hl : Low p q) (hp : B 160 p) (hq : B 160 q) (ha : B 160 a) (hb : B 160 b) (e0 : p * b = a * q) : Tot (told ++ [R p q]) (n + 1) (T * b + a * U) (U * b) := by
  obtain ⟨⟨ps, h1, h2, h3⟩, ht, hu⟩ := h
  refine ⟨⟨ps ++ [(p, q)], h1.snoc (.inl ⟨rfl, hl⟩) hp hq, by simp [h2], fun L hd => ?_⟩, ?_, (hu.mul hb).mono (by omega)⟩
  · have e := h3 L fun x hx => hd x (List.mem_append_left _ hx)
    have dq : q ∣ L := hd (p, q) (by simp)
    have q0 := hl.pos
    have e1 := dvd_fdiv dq (by omega)
    rw [S_snoc]
    show (S L ps + p * L.fdiv q) * (U * b) = (T * b + a * U) * L
    generalize L.fdiv q = f at e1
    generalize S L ps = s at e
    subst e1
    have e2 : s * U * b = T * (f * q) * b := by rw [e]
    have e3 : p * f * (U * b) = a * U * (f * q) := by
      have : p * f * (U * b) = (p * b) * f * U := by grind
      rw [this, e0]; grind
    grind
  · have x1 := (ht.mul hb).mono (show 161 * n + 1 + 160 ≤ 161 * n + 161 by omega)
    have x2 := (ha.mul hu).mono (show 160 + (161 * n + 1) ≤ 161 * n + 161 by omega)
    exact (x1.add x2).mono (by omega)
theorem tot_loop {pairs : List Val} (h0 : 0 < pairs.length) (h1 : pairs.length < 1000) (hP : ∀ x ∈ pairs, IsPair x) (k : (List Val × Val × Val × List Val) → Res (Val × List Val)) :
    ∀ (l : List Val) (p : List Val) (T U : Int) (told : List Val) (n : Nat), IsPot p → Tot told n T U → n + l.length ≤ 5 →
    ∃ p' T' U' told' n', m_law_total_right_l1 (.lst pairs) k l (p, .int T, .int U, told) = k (p', .int T', .int U', told') ∧ IsPot p' ∧ Tot told' n' T' U' ∧ n' ≤ 5
  | [], p, T, U, told, n, hp, ht, hn => ⟨p, T, U, told, n, rfl, hp, ht, by simpa using hn⟩
  | x :: l, p, T, U, told, n, hp, ht, hn => by
    have hn' : n + 1 + l.length ≤ 5 := by rw [List.length_cons] at hn; omega
    have tl : told.length < LIM := by
      obtain ⟨ps, e1, e2, _⟩ := ht.ex
      rw [e1.len, e2]
      exact Nat.lt_of_le_of_lt (show n ≤ 5 by omega) (by decide)
    have bt : B 900 T := ht.t.mono (by omega)
    have bu : B 900 U := ht.u.mono (by omega)
    obtain ⟨d, p1', e1, hp1, d0, d1⟩ := draw_ok hp (n := 3) (by decide) (by decide)
    by_cases hd : d = 0
    · obtain ⟨w, p2', e2, hp2, hw⟩ := whole_ok hp1
      have bw : B 20 w := Nat.lt_trans hw (by decide)
      obtain ⟨p', T', U', told', n', e, r⟩ := tot_loop h0 h1 hP k l p2' (T + w * U) U (told ++ [.int w]) (n + 1) hp2 (ht.int bw) hn'
      refine ⟨p', T', U', told', n', ?_, r⟩
      rw [← e]
      have m1 := bw.imul bu (by decide) (by decide) (by decide)
      simp [m_law_total_right_l1, ftst, fop, fcall, p1, p0, e1, seq, hd, asB, e2, appR_ok tl, m1, iadd]
    · obtain ⟨v, p2', e2, hp2, hv⟩ := pick_ok hp1 h0 h1
      obtain ⟨a, b, rfl, b0, ha, hb⟩ := hP v hv
      have Ba : B 160 a := ha
      have Bb : B 160 b := hb
      obtain ⟨pp, qq, e3, l3, x3, y3, z3⟩ := made (a := a) b0 (Nat.lt_trans (Bb.log (by decide)) (by decide))
      obtain ⟨p', T', U', told', n', e, r⟩ := tot_loop h0 h1 hP k l p2' (T * b + a * U) (U * b) (told ++ [R pp qq]) (n + 1) hp2 (ht.frac l3 (Ba.le y3) (Bb.le z3) Ba Bb x3) hn'
      refine ⟨p', T', U', told', n', ?_, r⟩
      rw [← e]
      have m1 := bt.imul Bb (by decide) (by decide) (by decide)
      have m2 := Ba.imul bu (by decide) (by decide) (by decide)
      have m3 := bu.imul Bb (by decide) (by decide) (by decide)
      have hd' : decide (d = 0) = false := by simpa using hd
      simp only [m_law_total_right_l1, joinR, ftst, fop, fcall, p1, fb_ok, fl_ok, consR_ok, nx_ok, ok_bind, e1, seq, hd', asB, iteF_f, e2, bindF_ok, op2_ok, vix0, vix1, make2, e3, appR_ok tl, m1, m2, m3, iadd]
theorem total_right_ok {pairs : List Val} (h0 : 0 < pairs.length) (h1 : pairs.length < 1000) (hP : ∀ x ∈ pairs, IsPair x) {p : List Val} (hp : IsPot p) : ∃ p', m_law_total_right p (.lst pairs) = .ok (.bl true, p') := by
  obtain ⟨d, p1', e1, hp1, d0, d1⟩ := draw_ok hp (n := 5) (by decide) (by decide)
  have key : ∀ l : List Val, l.length ≤ 5 → ∃ p', m_law_total_right_l1 (.lst pairs) (fun v4_s => (retP ((fl fun zs => (vAnd ((consR (cmM 0 (consR (.ok (.lst v4_s.2.2.2)) (.ok [])) (.ok []) [0, 1] [] (a2 m_Ratio_total)) (consR (.ok v4_s.2.1) (consR (.ok v4_s.2.2.1) (.ok [])))) >>= (a3 m_law_is)) ((consR (cmM 0 (.ok []) (consR ((consR (.ok (.lst v4_s.2.2.2)) (.ok [])) >>= bTuple) (.ok [])) [0, 1] [] (a2 m_Ratio_total)) (consR (.ok v4_s.2.1) (consR (.ok v4_s.2.2.1) (.ok [])))) >>= (a3 m_law_is)))) v4_s.1))) l (p1', .int 0, .int 1, []) = .ok (.bl true, p') := by
    intro l hl
    have t0 : Tot [] 0 0 1 := ⟨⟨[], .nil, rfl, fun L _ => by simp [S]⟩, by unfold B; decide, by unfold B; decide⟩
    obtain ⟨p', T, U, told, n, e, hp', ⟨⟨ps, x1, x2, x3⟩, bt, bu⟩, hn⟩ := tot_loop h0 h1 hP _ l p1' 0 1 [] 0 hp1 t0 (by omega)
    obtain ⟨⟨v, y1, z1⟩, v', y2, z2⟩ := total_ok x1 (by omega) (bt.mono (by omega)) (bu.mono (by omega)) x3
    have c1 : cmM 0 (.ok [.lst told]) (.ok []) [0, 1] [] (a2 m_Ratio_total) = m_Ratio_total (.cls 0) (.lst told) := by rfl
    have c2 : cmM 0 (.ok []) (.ok [.tup told]) [0, 1] [] (a2 m_Ratio_total) = m_Ratio_total (.cls 0) (.tup told) := by rfl
    refine ⟨p', e.trans ?_⟩
    simp only [consR_ok, ok_bind, bTuple, c1, c2, y1, y2, a3_ok, z1, z2, vAnd, asB, if_true, fl_ok, nx_ok, retP_ok]
  have fin : ∀ l : List Val, rng1 [.int d] = .ok l → l.length ≤ 5 → ∃ p', m_law_total_right p (.lst pairs) = .ok (.bl true, p') := by
    intro l hr hl
    obtain ⟨p', e⟩ := key l hl
    refine ⟨p', ?_⟩
    rw [← e]
    simp only [m_law_total_right, ok_bind, frng1, fcons, fcall, p1, fb_ok, fl_ok, fp_ok, consR_ok, nx_ok, e1, hr, bindF_ok]
  have : d = 0 ∨ d = 1 ∨ d = 2 ∨ d = 3 ∨ d = 4 := by omega
  rcases this with rfl | rfl | rfl | rfl | rfl <;> exact fin _ rfl (by decide)
theorem mapR5 {a b c d e : Val} {f : Val → Res Val} (ha : f a = .ok (.bl true)) (hb : f b = .ok (.bl true)) (hc : f c = .ok (.bl true)) (hd : f d = .ok (.bl true)) (he : f e = .ok (.bl true)) : mapR f [a, b, c, d, e] = .ok [.bl true, .bl true, .bl true, .bl true, .bl true] :=
  mapR_cons ha (mapR_cons hb (mapR_cons hc (mapR_cons hd (mapR_cons he rfl))))
theorem law_true (ns : List Int) (hl : ns.length ≤ 63) : m_law (.lst (ns.map Val.int)) = .ok (.bl true) := by
  obtain ⟨p, e0, hp⟩ := pot_ok (ns := ns)
  obtain ⟨a, b, p1', e1, hp1, b0, ha, hb⟩ := pair_ok hp
  obtain ⟨c, d, p2', e2, hp2, d0, hc, hd⟩ := pair_ok hp1
  obtain ⟨w, p3', e3, hp3, hw⟩ := whole_ok hp2
  have s45 : (10 : Nat) ^ 45 ≤ 2 ^ 150 := by decide
  have Ba : B 160 a := B.small ha (by decide)
  have Bb : B 160 b := B.small hb (by decide)
  have Bc : B 160 c := B.small hc (by decide)
  have Bd : B 160 d := B.small hd (by decide)
  have Bw : B 160 w := Nat.lt_trans hw (by decide)
  have B6 : B 3 6 := by unfold B; decide
  have Ba6 : B 160 (a * 6) := ((B.small (k := 150) ha (by decide)).mul B6).mono (by decide)
  have Bb6 : B 160 (b * 6) := ((B.small (k := 150) hb (by decide)).mul B6).mono (by decide)
  have Z : B 150 0 := by unfold B; decide
  have Bc0 : B 160 (0 - c) := (Z.sub (B.small (k := 150) hc (by decide))).mono (by decide)
  have Bd0 : B 160 (0 - d) := (Z.sub (B.small (k := 150) hd (by decide))).mono (by decide)
  have B0 : B 160 0 := Z.mono (by decide)
  have B3 : B 160 3 := by unfold B; decide
  have b6 : b * 6 ≠ 0 := by omega
  have d6 : 0 - d ≠ 0 := by omega
  let x1 : Val := .tup [.int a, .int b]
  let x2 : Val := .tup [.int c, .int d]
  let x3 : Val := .tup [.int 0, .int 3]
  let x4 : Val := .tup [.int (a * 6), .int (b * 6)]
  let x5 : Val := .tup [.int (0 - c), .int (0 - d)]
  have m1 : imul (.int a) (.int 6) = .ok (.int (a * 6)) := Ba.imul B6 (by decide) (by decide) (by decide)
  have m2 : imul (.int b) (.int 6) = .ok (.int (b * 6)) := Bb.imul B6 (by decide) (by decide) (by decide)
  have kT : ∀ x y : Val, mkT [x, y] = .ok (.tup [x, y]) := fun _ _ => by rfl
  have f1 : mapR (fun v14_other => m_law_two_right x1 v14_other) [x1, x2, x3, x4, x5] = .ok [.bl true, .bl true, .bl true, .bl true, .bl true] := by
    refine mapR5 ?_ ?_ ?_ ?_ ?_
    · exact two_ok b0 b0 Ba Bb Ba Bb
    · exact two_ok b0 d0 Ba Bb Bc Bd
    · exact two_ok b0 (by decide) Ba Bb B0 B3
    · exact two_ok b0 b6 Ba Bb Ba6 Bb6
    · exact two_ok b0 d6 Ba Bb Bc0 Bd0
  have f2 : mapR (fun v14_other => m_law_two_right x2 v14_other) [x1, x2, x3, x4, x5] = .ok [.bl true, .bl true, .bl true, .bl true, .bl true] := by
    refine mapR5 ?_ ?_ ?_ ?_ ?_
    · exact two_ok d0 b0 Bc Bd Ba Bb
    · exact two_ok d0 d0 Bc Bd Bc Bd
    · exact two_ok d0 (by decide) Bc Bd B0 B3
    · exact two_ok d0 b6 Bc Bd Ba6 Bb6
    · exact two_ok d0 d6 Bc Bd Bc0 Bd0
  have w1 : m_law_whole_right x1 (.int w) = .ok (.bl true) := whole_right_ok b0 Ba Bb Bw
  have w2 : m_law_whole_right x2 (.int w) = .ok (.bl true) := whole_right_ok d0 Bc Bd Bw
  have w3 : m_law_whole_right x3 (.int w) = .ok (.bl true) := whole_right_ok (by decide) B0 B3 Bw
  have w4 : m_law_whole_right x1 (.int 0) = .ok (.bl true) := whole_right_ok b0 Ba Bb B0
  obtain ⟨p4', e4⟩ := total_right_ok (pairs := [x1, x2, x3, x4, x5]) (by show 0 < 5; decide) (by show 5 < 1000; decide) (by
    intro x hx
    simp only [List.mem_cons, List.not_mem_nil, or_false] at hx
    rcases hx with rfl | rfl | rfl | rfl | rfl
    · exact ⟨_, _, rfl, b0, Ba, Bb⟩
    · exact ⟨_, _, rfl, d0, Bc, Bd⟩
    · exact ⟨_, _, rfl, by decide, B0, B3⟩
    · exact ⟨_, _, rfl, b6, Ba6, Bb6⟩
    · exact ⟨_, _, rfl, d6, Bc0, Bd0⟩) hp3
  have i5 : items (.lst [x1, x2, x3, x4, x5]) = .ok [x1, x2, x3, x4, x5] := by rfl
  have al : bAll [.lst [.bl true, .bl true, .bl true, .bl true, .bl true]] = .ok (.bl true) := by rfl
  have sl : sliceM (.ok (.lst [x1, x2, x3, x4, x5])) (.ok none) (oInt (.ok (.int 2))) = .ok (.lst [x1, x2]) := by rfl
  have i2' : items (.lst [x1, x2]) = .ok [x1, x2] := by rfl
  have v2 : vix (.lst [x1, x2, x3, x4, x5]) (.int 2) = .ok x3 := by rfl
  have v0 : vix (.lst [x1, x2, x3, x4, x5]) (.int 0) = .ok x1 := by rfl
  have q0 : vix (.lst [x1, x2, x3]) (.int 0) = .ok x1 := by rfl
  have q1 : vix (.lst [x1, x2, x3, x4]) (.int 1) = .ok x2 := by rfl
  have g0 : vix x1 (.int 0) = .ok (.int a) := vix0
  have g1 : vix x1 (.int 1) = .ok (.int b) := vix1
  have g2 : vix x2 (.int 0) = .ok (.int c) := vix0
  have g3 : vix x2 (.int 1) = .ok (.int d) := vix1
  have a3' : ∀ f : List Val → Res Val, appR [x1, x2, x3] x4 f = f [x1, x2, x3, x4] := fun f => appR_ok (by show 3 < LIM; decide)
  have a4' : ∀ f : List Val → Res Val, appR [x1, x2, x3, x4] x5 f = f [x1, x2, x3, x4, x5] := fun f => appR_ok (by show 4 < LIM; decide)
  have l3 : ∀ r : Res Val, limR [x1, x2, x3] r = r := fun r => limR_ok (by show 3 ≤ LIM; decide)
  have t4 : mkT [.int (a * 6), .int (b * 6)] = .ok x4 := kT _ _
  have t5 : mkT [.int (0 - c), .int (0 - d)] = .ok x5 := kT _ _
  have t3 : mkT [.int 0, .int 3] = .ok x3 := kT _ _
  have e1' : m_law_pair p = .ok (x1, p1') := e1
  have e2' : m_law_pair p1' = .ok (x2, p2') := e2
  clear_value x1 x2 x3 x4 x5
  simp -implicitDefEqProofs only [m_law, consR_ok, ok_bind, n2, e0, nx_ok, fcons, fcall, p0, fb_ok, fl_ok, fp_ok, e1', e2', t3, bindF_ok, l3, ixM_ok, q0, op2_ok, g0, g1, m1, m2, t4, a3', q1, g2, g3, isub, t5, a4', e3, sl, i2', m_law_l1, i5, f1, f2, asL, al, tst_ok, notB_ok, Bool.not_true, rOr, Bool.false_eq_true, if_false, a2_ok, w1, w2, iteR_f, fand, v2, w3, asB, if_true, v0, w4, p1, e4, retF_ok]
end Mir
open PySem PySem.W PyProof.Rows in
set_option maxRecDepth 100000 in
set_option maxHeartbeats 0 in
theorem PySem.Challenge.cw_surerwalks_k11_whole_numbers_reckoned_holds : PySem.Challenge.rw_surerwalks_k11_whole_numbers_reckoned.Holds := by
  w_on; o_law; k_head; (case hw => w_witness2)
  k_fill
  refine Mir.walkL (lev := 11) (l := PySem.Challenge.rw_surerwalks_k11_whole_numbers_reckoned) ⟨rfl, by decide, by decide⟩ rfl rfl (fun w h Y => PySem.W.kIn_of Y) ?F
  case F =>
    intro w mg fa h KX G hmg
    refine' Mir.all_mk Mir.law_true KX G hmg ?aC_Ratio ?a_is_integer ?l_is_integer ?c_is_integer ?k_is_integer ?a_Ratio_init ?i_Ratio_init ?l_Ratio_init ?c_Ratio_init ?k_Ratio_init ?t1_Ratio_init ?a_Ratio_top ?r_Ratio_top ?x_Ratio_top ?y_Ratio_top ?l_Ratio_top ?c_Ratio_top ?k_Ratio_top ?a_Ratio_bottom ?r_Ratio_bottom ?x_Ratio_bottom ?y_Ratio_bottom ?l_Ratio_bottom ?c_Ratio_bottom ?k_Ratio_bottom ?a_Ratio_sign ?r_Ratio_sign ?x_Ratio_sign ?y_Ratio_sign ?l_Ratio_sign ?c_Ratio_sign ?k_Ratio_sign ?a_Ratio_is_whole ?r_Ratio_is_whole ?x_Ratio_is_whole ?y_Ratio_is_whole ?l_Ratio_is_whole ?c_Ratio_is_whole ?k_Ratio_is_whole ?a_Ratio_add ?i_Ratio_add ?l_Ratio_add ?c_Ratio_add ?k_Ratio_add ?a_Ratio_radd ?i_Ratio_radd ?l_Ratio_radd ?c_Ratio_radd ?k_Ratio_radd ?a_Ratio_sub ?i_Ratio_sub ?l_Ratio_sub ?c_Ratio_sub ?k_Ratio_sub ?a_Ratio_rsub ?i_Ratio_rsub ?l_Ratio_rsub ?c_Ratio_rsub ?k_Ratio_rsub ?a_Ratio_mul ?i_Ratio_mul ?l_Ratio_mul ?c_Ratio_mul ?k_Ratio_mul ?a_Ratio_rmul ?i_Ratio_rmul ?l_Ratio_rmul ?c_Ratio_rmul ?k_Ratio_rmul ?a_Ratio_neg ?i_Ratio_neg ?l_Ratio_neg ?c_Ratio_neg ?k_Ratio_neg ?a_Ratio_over ?i_Ratio_over ?l_Ratio_over ?c_Ratio_over ?k_Ratio_over ?a_Ratio_size ?i_Ratio_size ?l_Ratio_size ?c_Ratio_size ?k_Ratio_size ?a_Ratio_is_below ?i_Ratio_is_below ?l_Ratio_is_below ?c_Ratio_is_below ?k_Ratio_is_below ?a_Ratio_is_at_most ?i_Ratio_is_at_most ?l_Ratio_is_at_most ?c_Ratio_is_at_most ?k_Ratio_is_at_most ?a_Ratio_eq ?i_Ratio_eq ?l_Ratio_eq ?c_Ratio_eq ?k_Ratio_eq ?a_Ratio_str ?i_Ratio_str ?l_Ratio_str ?c_Ratio_str ?k_Ratio_str ?a_Ratio_repr ?i_Ratio_repr ?l_Ratio_repr ?c_Ratio_repr ?k_Ratio_repr ?a_Ratio_total ?r_Ratio_total ?z_Ratio_total ?l_Ratio_total ?c_Ratio_total ?k_Ratio_total ?a_terms ?l_terms ?c_terms ?k_terms ?a_law_pot ?l_law_pot ?c_law_pot ?k_law_pot ?a_law_draw ?l_law_draw ?c_law_draw ?k_law_draw ?a_law_pick ?l_law_pick ?c_law_pick ?k_law_pick ?a_law_top ?l_law_top ?c_law_top ?k_law_top ?a_law_whole ?l_law_whole ?c_law_whole ?k_law_whole ?a_law_pair ?l_law_pair ?c_law_pair ?k_law_pair ?a_law_common ?l_law_common ?c_law_common ?k_law_common ?a_law_is ?l_law_is ?c_law_is ?k_law_is ?a_law_two_right ?l_law_two_right ?c_law_two_right ?k_law_two_right ?a_law_whole_right ?l_law_whole_right ?c_law_whole_right ?k_law_whole_right ?a_law_total_right ?l_law_total_right ?c_law_total_right ?k_law_total_right ?a_law ?l_law ?c_law ?k_law ?pg_Ratio ?hd_Ratio ?po_Ratio ?sa_Ratio ?mk_Ratio ?kc_Ratio ?ha_Ratio ?hm_Ratio ?bint_Ratio ?bbool_Ratio ?blist_Ratio ?btuple_Ratio ?bstr_Ratio ?nNoneType_Ratio ?nbool_Ratio ?nint_Ratio ?nstr_Ratio ?nlist_Ratio ?ntuple_Ratio ?ic_Ratio ?ty_Ratio ?nf_Ratio__top ?nf_Ratio__bottom ?rd_Ratio ?ga_Ratio ?sf_Ratio ?s1_Ratio ?s2_Ratio ?q1_add ?q2_add ?q1_sub ?q2_sub ?q1_mul ?q2_mul ?ne_Ratio ?so_Ratio ?oc_get ?oc_tak ?u_abs ?u_all ?u_bool ?u_divmod ?u_gcd ?u_int ?u_isinstance ?u_lcm ?u_len ?u_list ?u_max ?u_range ?u_repr ?u_str ?u_sum ?u_tuple ?o1_Ratio_init
    (case aC_Ratio => k_is)
    (case a_is_integer => k_is)
    (case l_is_integer => k_is)
    (case c_is_integer => k_is)
    (case k_is_integer => k_is)
    (case a_Ratio_init => k_is)
    (case i_Ratio_init => k_is)
    (case l_Ratio_init => k_is)
    (case c_Ratio_init => k_is)
    (case k_Ratio_init => k_is)
    (case t1_Ratio_init => k_is)
    (case a_Ratio_top => k_is)
    (case r_Ratio_top => k_is)
    (case x_Ratio_top => k_is)
    (case y_Ratio_top => k_is)
    (case l_Ratio_top => k_is)
    (case c_Ratio_top => k_is)
    (case k_Ratio_top => k_is)
    (case a_Ratio_bottom => k_is)
    (case r_Ratio_bottom => k_is)
    (case x_Ratio_bottom => k_is)
    (case y_Ratio_bottom => k_is)
    (case l_Ratio_bottom => k_is)
    (case c_Ratio_bottom => k_is)
    (case k_Ratio_bottom => k_is)
    (case a_Ratio_sign => k_is)
    (case r_Ratio_sign => k_is)
    (case x_Ratio_sign => k_is)
    (case y_Ratio_sign => k_is)
    (case l_Ratio_sign => k_is)
    (case c_Ratio_sign => k_is)
    (case k_Ratio_sign => k_is)
    (case a_Ratio_is_whole => k_is)
    (case r_Ratio_is_whole => k_is)
    (case x_Ratio_is_whole => k_is)
    (case y_Ratio_is_whole => k_is)
    (case l_Ratio_is_whole => k_is)
    (case c_Ratio_is_whole => k_is)
    (case k_Ratio_is_whole => k_is)
    (case a_Ratio_add => k_is)
    (case i_Ratio_add => k_is)
    (case l_Ratio_add => k_is)
    (case c_Ratio_add => k_is)
    (case k_Ratio_add => k_is)
    (case a_Ratio_radd => k_is)
    (case i_Ratio_radd => k_is)
    (case l_Ratio_radd => k_is)
    (case c_Ratio_radd => k_is)
    (case k_Ratio_radd => k_is)
    (case a_Ratio_sub => k_is)
    (case i_Ratio_sub => k_is)
    (case l_Ratio_sub => k_is)
    (case c_Ratio_sub => k_is)
    (case k_Ratio_sub => k_is)
    (case a_Ratio_rsub => k_is)
    (case i_Ratio_rsub => k_is)
    (case l_Ratio_rsub => k_is)
    (case c_Ratio_rsub => k_is)
    (case k_Ratio_rsub => k_is)
    (case a_Ratio_mul => k_is)
    (case i_Ratio_mul => k_is)
    (case l_Ratio_mul => k_is)
    (case c_Ratio_mul => k_is)
    (case k_Ratio_mul => k_is)
    (case a_Ratio_rmul => k_is)
    (case i_Ratio_rmul => k_is)
    (case l_Ratio_rmul => k_is)
    (case c_Ratio_rmul => k_is)
    (case k_Ratio_rmul => k_is)
    (case a_Ratio_neg => k_is)
    (case i_Ratio_neg => k_is)
    (case l_Ratio_neg => k_is)
    (case c_Ratio_neg => k_is)
    (case k_Ratio_neg => k_is)
    (case a_Ratio_over => k_is)
    (case i_Ratio_over => k_is)
    (case l_Ratio_over => k_is)
    (case c_Ratio_over => k_is)
    (case k_Ratio_over => k_is)
    (case a_Ratio_size => k_is)
    (case i_Ratio_size => k_is)
    (case l_Ratio_size => k_is)
    (case c_Ratio_size => k_is)
    (case k_Ratio_size => k_is)
    (case a_Ratio_is_below => k_is)
    (case i_Ratio_is_below => k_is)
    (case l_Ratio_is_below => k_is)
    (case c_Ratio_is_below => k_is)
    (case k_Ratio_is_below => k_is)
    (case a_Ratio_is_at_most => k_is)
    (case i_Ratio_is_at_most => k_is)
    (case l_Ratio_is_at_most => k_is)
    (case c_Ratio_is_at_most => k_is)
    (case k_Ratio_is_at_most => k_is)
    (case a_Ratio_eq => k_is)
    (case i_Ratio_eq => k_is)
    (case l_Ratio_eq => k_is)
    (case c_Ratio_eq => k_is)
    (case k_Ratio_eq => k_is)
    (case a_Ratio_str => k_is)
    (case i_Ratio_str => k_is)
    (case l_Ratio_str => k_is)
    (case c_Ratio_str => k_is)
    (case k_Ratio_str => k_is)
    (case a_Ratio_repr => k_is)
    (case i_Ratio_repr => k_is)
    (case l_Ratio_repr => k_is)
    (case c_Ratio_repr => k_is)
    (case k_Ratio_repr => k_is)
    (case a_Ratio_total => k_is)
    (case r_Ratio_total => k_is)
    (case z_Ratio_total => k_is)
    (case l_Ratio_total => k_is)
    (case c_Ratio_total => k_is)
    (case k_Ratio_total => k_is)
    (case a_terms => k_is)
    (case l_terms => k_is)
    (case c_terms => k_is)
    (case k_terms => k_is)
    (case a_law_pot => k_is)
    (case l_law_pot => k_is)
    (case c_law_pot => k_is)
    (case k_law_pot => k_is)
    (case a_law_draw => k_is)
    (case l_law_draw => k_is)
    (case c_law_draw => k_is)
    (case k_law_draw => k_is)
    (case a_law_pick => k_is)
    (case l_law_pick => k_is)
    (case c_law_pick => k_is)
    (case k_law_pick => k_is)
    (case a_law_top => k_is)
    (case l_law_top => k_is)
    (case c_law_top => k_is)
    (case k_law_top => k_is)
    (case a_law_whole => k_is)
    (case l_law_whole => k_is)
    (case c_law_whole => k_is)
    (case k_law_whole => k_is)
    (case a_law_pair => k_is)
    (case l_law_pair => k_is)
    (case c_law_pair => k_is)
    (case k_law_pair => k_is)
    (case a_law_common => k_is)
    (case l_law_common => k_is)
    (case c_law_common => k_is)
    (case k_law_common => k_is)
    (case a_law_is => k_is)
    (case l_law_is => k_is)
    (case c_law_is => k_is)
    (case k_law_is => k_is)
    (case a_law_two_right => k_is)
    (case l_law_two_right => k_is)
    (case c_law_two_right => k_is)
    (case k_law_two_right => k_is)
    (case a_law_whole_right => k_is)
    (case l_law_whole_right => k_is)
    (case c_law_whole_right => k_is)
    (case k_law_whole_right => k_is)
    (case a_law_total_right => k_is)
    (case l_law_total_right => k_is)
    (case c_law_total_right => k_is)
    (case k_law_total_right => k_is)
    (case a_law => k_is)
    (case l_law => k_is)
    (case c_law => k_is)
    (case k_law => k_is)
    (case pg_Ratio => k_is)
    (case hd_Ratio => k_is)
    (case po_Ratio => k_is)
    (case sa_Ratio => k_is)
    (case mk_Ratio => k_is)
    (case kc_Ratio => k_is)
    (case ha_Ratio => k_is)
    (case hm_Ratio => k_is)
    (case bint_Ratio => k_is)
    (case bbool_Ratio => k_is)
    (case blist_Ratio => k_is)
    (case btuple_Ratio => k_is)
    (case bstr_Ratio => k_is)
    (case nNoneType_Ratio => k_is)
    (case nbool_Ratio => k_is)
    (case nint_Ratio => k_is)
    (case nstr_Ratio => k_is)
    (case nlist_Ratio => k_is)
    (case ntuple_Ratio => k_is)
    (case ic_Ratio => k_is)
    (case ty_Ratio => k_is)
    (case nf_Ratio__top => k_is)
    (case nf_Ratio__bottom => k_is)
    (case rd_Ratio => k_is)
    (case ga_Ratio => k_is)
    (case sf_Ratio => k_is)
    (case s1_Ratio => k_is)
    (case s2_Ratio => k_is)
    (case q1_add => k_is)
    (case q2_add => k_is)
    (case q1_sub => k_is)
    (case q2_sub => k_is)
    (case q1_mul => k_is)
    (case q2_mul => k_is)
    (case ne_Ratio => k_is)
    (case so_Ratio => k_is)
    (case oc_get => k_is)
    (case oc_tak => k_is)
    (case u_abs => k_is)
    (case u_all => k_is)
    (case u_bool => k_is)
    (case u_divmod => k_is)
    (case u_gcd => k_is)
    (case u_int => k_is)
    (case u_isinstance => k_is)
    (case u_lcm => k_is)
    (case u_len => k_is)
    (case u_list => k_is)
    (case u_max => k_is)
    (case u_range => k_is)
    (case u_repr => k_is)
    (case u_str => k_is)
    (case u_sum => k_is)
    (case u_tuple => k_is)
    (case o1_Ratio_init => rfl)
