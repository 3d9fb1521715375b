import PyProof.Rows.All
import Wide.All
import OpenK.AllK
import Wide.FinOn
import HandS.ForMost
import HandS.ForExc
import HandS.Wide
import HandS.Flow
import HandS.IsInst
import HandS.StrMore
import HandS.SetFor
import HandS.TupAny
import HandS.Zip
import HandS.Rev
import HandS.Iter
import HandS.WordsExc
import HandS.Ends
import PySem.Challenge.RW_gazette_k00_tally_counts_seats
set_option Elab.async false
set_option linter.all false
set_option maxRecDepth 100000
namespace G
open PySem PySem.Spec PyProof.Rows L2
/-! ### data -/
inductive D where
  | non | bl (b : Bool) | int (i : Int) | str (s : Str) | tup (xs : List D) | lst (xs : List D) | scr (ns : List Int)
  deriving Inhabited
mutual
def Rep (K : PySem.W.Frag) (M : Hp) : D → V → Prop
  | .non, v => v = .non
  | .bl b, v => v = .bl b
  | .int i, v => v = .int i
  | .str s, v => v = .str s
  | .tup ds, v => ∃ a vs, v = .ref a ∧ SqT K M a vs ∧ Reps K M ds vs
  | .lst ds, v => ∃ a vs, v = .ref a ∧ M a = some (.lst vs) ∧ Reps K M ds vs
  | .scr ns, v => ∃ a, v = .ref a ∧ SqL K M a (ns.map V.int)
def Reps (K : PySem.W.Frag) (M : Hp) : List D → List V → Prop
  | [], vs => vs = []
  | d :: ds, vs => ∃ v vs', vs = v :: vs' ∧ Rep K M d v ∧ Reps K M ds vs'
end
theorem Same.sqt {K : PySem.W.Frag} {H H' : Hp} {a : Addr} {xs : List V} (e : Same H H') (h : SqT K H a xs) : SqT K H' a xs := by
  rcases h with (h | ⟨o, h⟩) | h
  · exact .inl (.inl (e _ _ h))
  · exact .inl (.inr ⟨o, e _ _ h⟩)
  · exact .inr h
section
variable {K : PySem.W.Frag} {M M' : Hp}
mutual
theorem Rep.mono (e : Same M M') : ∀ {d : D} {v : V}, Rep K M d v → Rep K M' d v
  | .non, _, h => by simp only [Rep] at h ⊢; exact h
  | .bl _, _, h => by simp only [Rep] at h ⊢; exact h
  | .int _, _, h => by simp only [Rep] at h ⊢; exact h
  | .str _, _, h => by simp only [Rep] at h ⊢; exact h
  | .tup ds, _, h => by
    simp only [Rep] at h ⊢
    obtain ⟨a, vs, e1, e2, e3⟩ := h
    exact ⟨a, vs, e1, Same.sqt e e2, Reps.mono e e3⟩
  | .lst ds, _, h => by
    simp only [Rep] at h ⊢
    obtain ⟨a, vs, e1, e2, e3⟩ := h
    exact ⟨a, vs, e1, e _ _ e2, Reps.mono e e3⟩
  | .scr ns, _, h => by
    simp only [Rep] at h ⊢
    obtain ⟨a, e1, e2⟩ := h
    exact ⟨a, e1, e.seq e2⟩
theorem Reps.mono (e : Same M M') : ∀ {ds : List D} {vs : List V}, Reps K M ds vs → Reps K M' ds vs
  | [], _, h => by simp only [Reps] at h ⊢; exact h
  | d :: ds, _, h => by
    simp only [Reps] at h ⊢
    obtain ⟨v, vs', e1, e2, e3⟩ := h
    exact ⟨v, vs', e1, Rep.mono e e2, Reps.mono e e3⟩
end
theorem Reps.length : ∀ {ds : List D} {vs : List V}, Reps K M ds vs → ds.length = vs.length
  | [], _, h => by simp only [Reps] at h; subst h; rfl
  | d :: ds, _, h => by
    simp only [Reps] at h
    obtain ⟨v, vs', rfl, _, e3⟩ := h
    simp [Reps.length e3]
theorem Reps.isEmpty {ds : List D} {vs : List V} (h : Reps K M ds vs) : vs.isEmpty = ds.isEmpty := by
  have := h.length
  cases ds <;> cases vs <;> simp_all
theorem Reps.get : ∀ {ds : List D} {vs : List V} {i : Nat} {d : D}, Reps K M ds vs → ds[i]? = some d → ∃ v, vs[i]? = some v ∧ Rep K M d v
  | [], _, _, _, _, h => by simp at h
  | d :: ds, _, i, d', h, hi => by
    simp only [Reps] at h
    obtain ⟨v, vs', rfl, e2, e3⟩ := h
    cases i with
    | zero => simp at hi; subst hi; exact ⟨v, rfl, e2⟩
    | succ i => simp at hi ⊢; exact Reps.get e3 hi
theorem Reps.getV : ∀ {ds : List D} {vs : List V} {i : Nat} {v : V}, Reps K M ds vs → vs[i]? = some v → ∃ d, ds[i]? = some d ∧ Rep K M d v
  | [], _, i, v, h, hi => by simp only [Reps] at h; subst h; simp at hi
  | d :: ds, _, i, d', h, hi => by
    simp only [Reps] at h
    obtain ⟨v, vs', rfl, e2, e3⟩ := h
    cases i with
    | zero => simp at hi; subst hi; exact ⟨d, rfl, e2⟩
    | succ i => simp at hi ⊢; exact Reps.getV e3 hi
theorem Reps.append : ∀ {ds es : List D} {vs ws : List V}, Reps K M ds vs → Reps K M es ws → Reps K M (ds ++ es) (vs ++ ws)
  | [], _, _, _, h, h2 => by simp only [Reps] at h; subst h; exact h2
  | d :: ds, es, _, ws, h, h2 => by
    simp only [Reps] at h
    obtain ⟨v, vs', rfl, e2, e3⟩ := h
    simp only [List.cons_append, Reps]
    exact ⟨v, vs' ++ ws, rfl, e2, Reps.append e3 h2⟩
theorem Reps.one {d : D} {v : V} (h : Rep K M d v) : Reps K M [d] [v] := by
  simp only [Reps]
  exact ⟨v, [], rfl, h, rfl⟩
theorem Reps.set : ∀ {ds : List D} {vs : List V} {d : D} {v : V} (i : Nat), Rep K M d v → Reps K M ds vs → Reps K M (ds.set i d) (vs.set i v)
  | [], _, _, _, _, _, h => by simp only [Reps] at h; subst h; simp [Reps]
  | d :: ds, _, d', v', i, hr, h => by
    simp only [Reps] at h
    obtain ⟨v, vs', rfl, e2, e3⟩ := h
    cases i with
    | zero => simp only [List.set, Reps]; exact ⟨v', vs', rfl, hr, e3⟩
    | succ i => simp only [List.set, Reps]; exact ⟨v, vs'.set i v', rfl, e2, Reps.set i hr e3⟩
theorem Reps.take : ∀ {ds : List D} {vs : List V} (i : Nat), Reps K M ds vs → Reps K M (ds.take i) (vs.take i)
  | _, _, 0, _ => by simp [Reps]
  | [], _, i + 1, h => by simp only [Reps] at h; subst h; simp [Reps]
  | d :: ds, _, i + 1, h => by
    simp only [Reps] at h
    obtain ⟨v, vs', rfl, e2, e3⟩ := h
    simp only [List.take_succ_cons, Reps]
    exact ⟨v, _, rfl, e2, Reps.take i e3⟩
theorem Reps.drop : ∀ {ds : List D} {vs : List V} (i : Nat), Reps K M ds vs → Reps K M (ds.drop i) (vs.drop i)
  | _, _, 0, h => by simpa using h
  | [], _, i + 1, h => by simp only [Reps] at h; subst h; simp [Reps]
  | d :: ds, _, i + 1, h => by
    simp only [Reps] at h
    obtain ⟨v, vs', rfl, e2, e3⟩ := h
    simp only [List.drop_succ_cons]
    exact Reps.drop i e3
theorem Reps.eraseIdx : ∀ {ds : List D} {vs : List V} (i : Nat), Reps K M ds vs → Reps K M (ds.eraseIdx i) (vs.eraseIdx i)
  | [], _, _, h => by simp only [Reps] at h; subst h; simp [Reps]
  | d :: ds, _, i, h => by
    simp only [Reps] at h
    obtain ⟨v, vs', rfl, e2, e3⟩ := h
    cases i with
    | zero => simpa using e3
    | succ i => simp only [List.eraseIdx_cons_succ, Reps]; exact ⟨v, _, rfl, e2, Reps.eraseIdx i e3⟩
theorem Reps.ints : ∀ {ns : List Int} {vs : List V}, Reps K M (ns.map D.int) vs → vs = ns.map V.int
  | [], _, h => by simpa [Reps] using h
  | n :: ns, _, h => by
    simp only [List.map_cons, Reps] at h
    obtain ⟨v, vs', rfl, e2, e3⟩ := h
    simp only [Rep] at e2
    rw [e2, Reps.ints e3]
    rfl
theorem Reps.of_ints : ∀ {ns : List Int}, Reps K M (ns.map D.int) (ns.map V.int)
  | [] => by simp [Reps]
  | n :: ns => by
    simp only [List.map_cons, Reps]
    exact ⟨_, _, rfl, by simp [Rep], Reps.of_ints⟩
end
/-! ### slots, results -/
inductive Sl where
  | val (d : D) | lv (fz : Bool) (ds : List D)
  deriving Inhabited
abbrev Nv := List (Option Sl)
inductive R where
  | val (d : D) | own (ds : List D)
  deriving Inhabited
/-- an outcome: a value and the slots; an exception; nothing is known -/
inductive Rs (α : Type) where
  | ok (a : α) (e : Nv) | exc (c : Nat) (as : List D) (e : Nv) | stuck
def Rs.bind {α β : Type} : Rs α → (α → Nv → Rs β) → Rs β
  | .ok a e, f => f a e
  | .exc c as e, _ => .exc c as e
  | .stuck, _ => .stuck
/-- no exception may leave -/
def Rs.nox {α : Type} : Rs α → Rs α
  | .ok a e => .ok a e
  | _ => .stuck
def R.frz : R → D
  | .val d => d
  | .own ds => .lst ds
def Rs.of {α : Type} : Option α → Nv → Rs α
  | some a, e => .ok a e
  | none, _ => .stuck
/-- the own (mutable) addresses -/
def Own (σ : L2.St) (e : Nv) (a : Addr) : Prop := ∃ (i : Nat) (fz : Bool) (ds : List D), e[i]? = some (some (.lv fz ds)) ∧ σ[i]? = some (some (.ref a))
def SlR (K : PySem.W.Frag) (M H : Hp) : Sl → V → Prop
  | .val d, v => Rep K M d v
  | .lv _ ds, v => ∃ a vs, v = .ref a ∧ M a = none ∧ H a = some (.lst vs) ∧ Reps K M ds vs
structure StR (K : PySem.W.Frag) (M H : Hp) (σ : L2.St) (e : Nv) : Prop where
  ext : Same M H
  len : e.length = σ.length
  get : ∀ (i : Nat) (s : Sl), e[i]? = some (some s) → ∃ v, σ[i]? = some (some v) ∧ SlR K M H s v
  apart : ∀ (i j : Nat) (f g : Bool) (xs ys : List D) (v : V), e[i]? = some (some (.lv f xs)) → e[j]? = some (some (.lv g ys)) → σ[i]? = some (some v) → σ[j]? = some (some v) → i = j
structure Step (M H : Hp) (O : Addr → Prop) (M' H' : Hp) (O' : Addr → Prop) : Prop where
  mm : Same M M'
  keep : ∀ a o, H a = some o → ¬ O a → H' a = some o
  own : ∀ a, O' a → O a ∨ H a = none
  dom : ∀ a, H' a = none → H a = none
  mnew : ∀ a o, M' a = some o → M a = some o ∨ O a ∨ H a = none
section
variable {K : PySem.W.Frag} {M H M1 H1 M2 H2 : Hp} {O O1 O2 O1' : Addr → Prop} {σ : L2.St} {nv : Nv}
theorem Step.refl (M H : Hp) (O : Addr → Prop) : Step M H O M H O := ⟨Same.refl _, fun _ _ h _ => h, fun _ h => .inl h, fun _ h => h, fun _ _ h => .inl h⟩
theorem Step.trans (a : Step M H O M1 H1 O1) (b : Step M1 H1 O1 M2 H2 O2) : Step M H O M2 H2 O2 :=
  ⟨a.mm.trans b.mm, fun x o h n => b.keep x o (a.keep x o h n) (fun z => (a.own x z).elim n fun z => by rw [h] at z; cases z), fun x h => (b.own x h).elim (fun z => a.own x z) fun z => .inr (a.dom x z), fun x h => a.dom x (b.dom x h),
    fun x o h => (b.mnew x o h).elim (fun z => a.mnew x o z) fun z => .inr (z.elim (fun z => a.own x z) fun z => .inr (a.dom x z))⟩
theorem Step.less (a : Step M H O M1 H1 O1) (h : ∀ x, O1' x → O1 x) : Step M H O M1 H1 O1' := ⟨a.mm, a.keep, fun x z => a.own x (h x z), a.dom, a.mnew⟩
/-- a result: data, or a new list that nobody else holds -/
def RR (K : PySem.W.Frag) (M H : Hp) (O : Addr → Prop) : R → V → Prop
  | .val d, v => Rep K M d v
  | .own ds, v => ∃ a vs, v = .ref a ∧ H a = some (.lst vs) ∧ M a = none ∧ ¬ O a ∧ Reps K M ds vs
def ResO : R → V → Addr → Prop
  | .val _, _, _ => False
  | .own _, v, a => v = .ref a
theorem StR.own_at (st : StR K M H σ nv) {a : Addr} (h : Own σ nv a) : M a = none ∧ ∃ vs, H a = some (.lst vs) := by
  obtain ⟨i, fz, ds, h1, h2⟩ := h
  obtain ⟨v, e1, e2⟩ := st.get i _ h1
  rw [h2] at e1
  obtain ⟨a', vs, e3, e4, e5, _⟩ := e2
  have : V.ref a = v := by injection e1 with e1; injection e1
  rw [← this] at e3
  injection e3 with e3
  subst e3
  exact ⟨e4, vs, e5⟩
/-- more heap: nothing own is changed, nothing own is known -/
theorem StR.grow (st : StR K M H σ nv) (mm : Same M M1) (hh : ∀ a o, H a = some o → H1 a = some o) (ext : Same M1 H1) (mn : ∀ a, Own σ nv a → M1 a = none) : StR K M1 H1 σ nv := by
  refine ⟨ext, st.len, fun i s h => ?_, st.apart⟩
  obtain ⟨v, e1, e2⟩ := st.get i s h
  refine ⟨v, e1, ?_⟩
  cases s with
  | val d => exact Rep.mono mm e2
  | lv f ds =>
    obtain ⟨a, vs, rfl, e3, e4, e5⟩ := e2
    exact ⟨a, vs, rfl, mn a ⟨i, f, ds, h, e1⟩, hh _ _ e4, Reps.mono mm e5⟩
theorem same_upd {H : Hp} {p : Addr} {o : HO} (h : H p = none) : Same H (upd H p o) := fun b x e => by
  rw [upd_ne (ne_of_none e h)]
  exact e
/-- a new list is known from now on -/
theorem freeze {r : R} {v : V} (st : StR K M1 H1 σ nv) (rr : RR K M1 H1 (Own σ nv) r v) (s : Step M H O M1 H1 (fun a => Own σ nv a ∨ ResO r v a)) :
    ∃ M2, StR K M2 H1 σ nv ∧ Rep K M2 r.frz v ∧ Step M H O M2 H1 (Own σ nv) ∧ Same M1 M2 := by
  cases r with
  | val d => exact ⟨M1, st, rr, s.less fun x h => .inl h, Same.refl _⟩
  | own ds =>
    obtain ⟨a, vs, rfl, e1, e2, e3, e4⟩ := rr
    have sm : Same M1 (upd M1 a (.lst vs)) := same_upd e2
    refine ⟨upd M1 a (.lst vs), st.grow sm (fun _ _ h => h) (fun b o h => ?_) (fun b hb => ?_), ?_, ⟨s.mm.trans sm, s.keep, fun x h => s.own x (.inl h), s.dom, fun x o h => ?_⟩, sm⟩
    · by_cases hb : b = a
      · subst hb; rw [upd_same] at h; cases h; exact e1
      · rw [upd_ne hb] at h; exact st.ext _ _ h
    · have : b ≠ a := fun z => e3 (z ▸ hb)
      rw [upd_ne this]
      exact (st.own_at hb).1
    · simp only [R.frz, Rep]
      exact ⟨a, vs, rfl, upd_same, Reps.mono sm e4⟩
    · by_cases hb : x = a
      · subst hb
        exact .inr (s.own x (.inr rfl))
      · rw [upd_ne hb] at h; exact s.mnew x o h
end
end G
namespace G
open PySem PySem.Spec PyProof.Rows L2
/-! ### the language -/
inductive T where
  | nm (i : Nat) | two (a b : T) | three (a b c : T)
  deriving Inhabited
inductive P1 where
  | neg | len | abs | int | tupl | list | truth | isN | notN | isi (t : Nat) | sum | sumT | any | all
  deriving DecidableEq, Inhabited
inductive P2 where
  | add | sub | mul | fdiv | mod | pow | eq | ne | lt | le | gt | ge | inn | nin | ix | max | min
  deriving DecidableEq, Inhabited
inductive Pm where
  | count | lidx | sidx | join
  deriving DecidableEq, Inhabited
inductive Ik where
  | seq | rng | zip | enum | rev
  deriving DecidableEq, Inhabited
inductive Mt where
  | app | ext | pop | popi | rem | ins | rvs
  deriving DecidableEq, Inhabited
inductive E where
  | var (i : Nat) | mov (i : Nat) | brw (i : Nat)
  | non | bl (b : Bool) | int (i : Int) | str (s : Str)
  | op1 (p : P1) (a : E) | op2 (p : P2) (a b : E) | mop (p : Pm) (a b : E)
  | tup (es : List E) | lst (es : List E)
  | and_ (a b : E) | or_ (a b : E) | not_ (a : E) | ife (c a b : E)
  | slc (a lo hi : E)
  | call (f sh : Nat) (es : List E)
  | comp (t : T) (k : Ik) (es : List E) (cs : List E) (elt : E) (own : List Nat)
  | mth (m : Mt) (i : Nat) (es : List E)
  deriving Inhabited
abbrev SZ : Nat := 16777216
def b62 (i : Int) : Bool := decide (-4611686018427387904 ≤ i) && decide (i < 4611686018427387904)
/-! ### primitives -/
def pAdd : D → D → Option R
  | .int a, .int b => some (.val (.int (a + b)))
  | .str a, .str b => if a.length + b.length ≤ SZ then some (.val (.str (a ++ b))) else none
  | .tup a, .tup b => if a.length + b.length ≤ SZ then some (.val (.tup (a ++ b))) else none
  | .lst a, .lst b => if a.length + b.length ≤ SZ then some (.own (a ++ b)) else none
  | _, _ => none
def pSub : D → D → Option R
  | .int a, .int b => some (.val (.int (a - b)))
  | _, _ => none
def pMul : D → D → Option R
  | .int a, .int b => if (-(2 ^ 64) < a ∧ a < 2 ^ 64) ∨ (-(2 ^ 64) < b ∧ b < 2 ^ 64) then some (.val (.int (a * b))) else none
  | .lst a, .int k => if -(2 ^ 63) ≤ k ∧ k < 2 ^ 63 ∧ a.length * k.toNat ≤ SZ then some (.own (List.replicate k.toNat a).flatten) else none
  | _, _ => none
def pFdiv : D → D → Option R
  | .int a, .int b => if 0 < b ∧ b < 1073741824 then some (.val (.int (a / b))) else none
  | _, _ => none
def pMod : D → D → Option R
  | .int a, .int b => if 0 < b then some (.val (.int (a % b))) else none
  | _, _ => none
def pPow : D → D → Option R
  | .int a, .int b => if 0 ≤ b ∧ b ≤ 1000000 ∧ a.natAbs < 2 ^ 64 then some (.val (.int (a ^ b.toNat))) else none
  | _, _ => none
def pCmp (f : Int → Int → Bool) : D → D → Option R
  | .int a, .int b => some (.val (.bl (f a b)))
  | _, _ => none
/-- == of flat things -/
def deq : D → D → Option Bool
  | .non, .non => some true | .non, .int _ => some false | .int _, .non => some false | .non, .bl _ => some false | .bl _, .non => some false
  | .non, .str _ => some false | .str _, .non => some false
  | .int a, .int b => some (decide (a = b)) | .bl a, .bl b => some (decide (a = b)) | .str a, .str b => some (decide (a = b))
  | .int _, .str _ => some false | .str _, .int _ => some false | .bl _, .str _ => some false | .str _, .bl _ => some false
  | _, _ => none
def pIx : D → D → Option R
  | .tup xs, .int i => (atI xs i).map .val
  | .lst xs, .int i => (atI xs i).map .val
  | .str z, .int i => if z.length ≤ SZ then (atI z.cps.toList i).map fun c => .val (.str ⟨#[c]⟩) else none
  | _, _ => none
def pMax : D → D → Option R
  | .int a, .int b => some (.val (.int (if b > a then b else a)))
  | _, _ => none
def pMin : D → D → Option R
  | .int a, .int b => some (.val (.int (if b < a then b else a)))
  | _, _ => none
def intsD : List D → Option (List Int)
  | [] => some []
  | .int i :: ds => (intsD ds).map (i :: ·)
  | _ :: _ => none
def strsD : List D → Option (List Str)
  | [] => some []
  | .str i :: ds => (strsD ds).map (i :: ·)
  | _ :: _ => none
def blsD : List D → Option (List Bool)
  | [] => some []
  | .bl i :: ds => (blsD ds).map (i :: ·)
  | _ :: _ => none
/-- flat things: no parts -/
def flatD : D → Bool
  | .non => true | .bl _ => true | .int _ => true | .str _ => true | _ => false
/-- == of flat things -/
def eqF : D → D → Bool
  | .non, .non => true
  | .bl a, .bl b => a == b
  | .bl a, .int b => (if a then 1 else 0) == b
  | .int a, .bl b => a == (if b then 1 else 0)
  | .int a, .int b => a == b
  | .str a, .str b => a == b
  | _, _ => false
def pCount : D → D → Option R
  | .lst xs, y => if flatD y && xs.all flatD then some (.val (.int (xs.countP fun z => eqF z y : Nat))) else none
  | _, _ => none
def pLidx : D → D → Option R
  | .lst xs, y => if flatD y && xs.all flatD then (xs.findIdx? fun z => eqF z y).map fun k => .val (.int (k : Nat)) else none
  | _, _ => none
def pIn (neg : Bool) : D → D → Option R
  | x, .lst xs => if flatD x && xs.all flatD then some (.val (.bl (if neg then !(xs.any fun z => eqF z x) else xs.any fun z => eqF z x))) else none
  | x, .tup xs => if flatD x && xs.all flatD then some (.val (.bl (if neg then !(xs.any fun z => eqF z x) else xs.any fun z => eqF z x))) else none
  | _, _ => none
def pIndex : D → D → Option R
  | .str a, .str b => (Txt.index0 a b).map fun k => .val (.int (k : Nat))
  | _, _ => none
def pJoin : D → D → Option R
  | .str a, .lst xs => match strsD xs with
    | some ys => if (ys.map (·.length)).sum + ys.length * a.length ≤ SZ then some (.val (.str (Txt.join a ys))) else none
    | none => none
  | _, _ => none
def p2 : P2 → D → D → Option R
  | .add => pAdd | .sub => pSub | .mul => pMul | .fdiv => pFdiv | .mod => pMod | .pow => pPow
  | .eq => fun a b => (deq a b).map fun k => .val (.bl k)
  | .ne => fun a b => (deq a b).map fun k => .val (.bl (!k))
  | .lt => pCmp fun a b => decide (a < b) | .le => pCmp fun a b => decide (a ≤ b) | .gt => pCmp fun a b => decide (b < a) | .ge => pCmp fun a b => decide (b ≤ a)
  | .ix => pIx | .max => pMax | .min => pMin
  | .inn => pIn false | .nin => pIn true
def pm : Pm → D → D → Option R
  | .count => pCount | .lidx => pLidx | .sidx => pIndex | .join => pJoin
/-- of what kind the receiver is -/
def recv : Pm → D → Bool
  | .count, .lst _ => true | .lidx, .lst _ => true | .sidx, .str _ => true | .join, .str _ => true
  | _, _ => false
def pLen : D → Option R
  | .tup xs => some (.val (.int xs.length))
  | .lst xs => some (.val (.int xs.length))
  | .str z => if z.length ≤ SZ then some (.val (.int z.length)) else none
  | .scr ns => some (.val (.int ns.length))
  | _ => none
def pList : D → Option R
  | .tup xs => some (.own xs)
  | .lst xs => some (.own xs)
  | .scr ns => some (.own (ns.map .int))
  | _ => none
def pTupl : D → Option R
  | .tup xs => some (.val (.tup xs))
  | .lst xs => some (.val (.tup xs))
  | _ => none
/-- isinstance: 0 tuple, 1 bool, 2 str, 3 int -/
def pIsi : Nat → D → Option R
  | 0, .tup _ => some (.val (.bl true)) | 0, .lst _ => some (.val (.bl false)) | 0, .non => some (.val (.bl false)) | 0, .bl _ => some (.val (.bl false)) | 0, .int _ => some (.val (.bl false)) | 0, .str _ => some (.val (.bl false))
  | 1, .bl _ => some (.val (.bl true)) | 1, .tup _ => some (.val (.bl false)) | 1, .lst _ => some (.val (.bl false)) | 1, .non => some (.val (.bl false)) | 1, .int _ => some (.val (.bl false)) | 1, .str _ => some (.val (.bl false))
  | 2, .str _ => some (.val (.bl true)) | 2, .tup _ => some (.val (.bl false)) | 2, .lst _ => some (.val (.bl false)) | 2, .non => some (.val (.bl false)) | 2, .int _ => some (.val (.bl false)) | 2, .bl _ => some (.val (.bl false))
  | 3, .int _ => some (.val (.bl true)) | 3, .bl _ => some (.val (.bl true)) | 3, .tup _ => some (.val (.bl false)) | 3, .lst _ => some (.val (.bl false)) | 3, .non => some (.val (.bl false)) | 3, .str _ => some (.val (.bl false))
  | _, _ => none
def p1 : P1 → D → Option R
  | .neg => fun | .int i => some (.val (.int (-i))) | _ => none
  | .len => pLen
  | .abs => fun | .int i => some (.val (.int (if i < 0 then -i else i))) | _ => none
  | .int => fun | .int i => some (.val (.int i)) | .bl b => some (.val (.int (if b then 1 else 0))) | _ => none
  | .tupl => pTupl | .list => pList
  | .truth => fun
    | .non => some (.val (.bl false)) | .bl b => some (.val (.bl b)) | .int i => some (.val (.bl (i != 0)))
    | .str z => if z.length ≤ SZ then some (.val (.bl ((z.length : Int) != 0))) else none
    | .tup xs => some (.val (.bl !xs.isEmpty)) | .lst xs => some (.val (.bl !xs.isEmpty)) | _ => none
  | .isN => fun | .non => some (.val (.bl true)) | _ => some (.val (.bl false))
  | .notN => fun | .non => some (.val (.bl false)) | _ => some (.val (.bl true))
  | .isi t => pIsi t
  | .sum => fun | .lst xs => (intsD xs).map fun ns => .val (.int ns.sum) | _ => none
  | .sumT => fun _ => none
  | .any => fun | .lst xs => (blsD xs).map fun ns => .val (.bl (ns.any id)) | _ => none
  | .all => fun | .lst xs => (blsD xs).map fun ns => .val (.bl (ns.all id)) | _ => none
def cutD (xs : List D) (lo hi : Option Int) : List D := (xs.drop (HT.sIx xs.length 0 lo)).take (HT.sIx xs.length xs.length hi - HT.sIx xs.length 0 lo)
def part : E → D → Option (Option Int)
  | .non, _ => some none
  | _, .int i => some (some i)
  | _, _ => none
def pSlc (a : D) (lo hi : Option Int) : Option R := match a with
  | .tup xs => some (.val (.tup (cutD xs lo hi)))
  | .lst xs => some (.own (cutD xs lo hi))
  | .str z => if z.length ≤ SZ then some (.val (.str (cutS z lo hi))) else none
  | _ => none
/-! ### slots -/
def look (nv : Nv) : D ⊕ Nat → Option D
  | .inl d => some d
  | .inr i => match nv[i]? with
    | some (some (.val d)) => some d
    | some (some (.lv _ ds)) => some (.lst ds)
    | _ => none
def rdVar (i : Nat) (nv : Nv) : Rs R := match nv[i]? with
  | some (some (.val d)) => .ok (.val d) nv
  | some (some (.lv true ds)) => .ok (.val (.lst ds)) (nv.set i (some (.val (.lst ds))))
  | _ => .stuck
def mvVar (i : Nat) (nv : Nv) : Rs R := match nv[i]? with
  | some (some (.val d)) => .ok (.val d) nv
  | some (some (.lv true ds)) => .ok (.own ds) (nv.set i none)
  | _ => .stuck
def opd (a : E) (nv : Nv) (ra : Rs R) : Rs (D ⊕ Nat) := match a with
  | .var i => match nv[i]? with
    | some (some _) => .ok (.inr i) nv
    | _ => .stuck
  | _ => ra.bind fun r nv1 => .ok (.inl r.frz) nv1
def wipeN (nv : Nv) : List Nat → Nv
  | [] => nv
  | v :: vs => (wipeN nv vs).set v none
/-- the slots own as they stood in old -/
def back (old nv : Nv) : List Nat → Nv
  | [] => nv
  | v :: vs => (back old nv vs).set v (old[v]?.join)
def R.slot : R → Sl
  | .val d => .val d
  | .own ds => .lv true ds
/-- a store to a slot; a borrowed one is not stored over -/
def stSlot (i : Nat) (s : Sl) (nv : Nv) : Rs Unit := match nv[i]? with
  | some (some (.lv false _)) => .stuck
  | some _ => .ok () (nv.set i (some s))
  | none => .stuck
def asgD : T → D → Nv → Rs Unit
  | .nm i, d, nv => stSlot i (.val d) nv
  | .two a b, .tup [x, y], nv => (asgD a x nv).bind fun _ nv1 => asgD b y nv1
  | .three a b c, .tup [x, y, z], nv => (asgD a x nv).bind fun _ nv1 => (asgD b y nv1).bind fun _ nv2 => asgD c z nv2
  | _, _, _ => .stuck
def asgR (t : T) (r : R) (nv : Nv) : Rs Unit := match t with
  | .nm i => stSlot i r.slot nv
  | t => asgD t r.frz nv
def lstOf : D → Option (List D)
  | .tup xs => some xs
  | .lst xs => some xs
  | .scr ns => some (ns.map .int)
  | .str z => if z.length ≤ SZ then some (z.cps.toList.map fun c => .str ⟨#[c]⟩) else none
  | _ => none
def items : Ik → List (D ⊕ Nat) → Option (List D)
  | .seq, [.inl d] => lstOf d
  | .rng, [.inl (.int n)] => if b62 n then some ((List.range n.toNat).map fun k => .int (k : Nat)) else none
  | .rng, [.inl (.int a), .inl (.int b)] => if b62 a && b62 b then some ((List.range (b - a).toNat).map fun (k : Nat) => .int (a + k)) else none
  | .zip, [.inl a, .inl b] => match lstOf a, lstOf b with
    | some xs, some ys => some ((xs.zip ys).map fun p => .tup [p.1, p.2])
    | _, _ => none
  | .enum, [.inl a] => (lstOf a).map fun xs => (xs.zipIdx).map fun p => .tup [.int (p.2 : Nat), p.1]
  | .rev, [.inl a] => (lstOf a).map List.reverse
  | _, _ => none
def compLoop (turn : D → Nv → Rs (Option D)) : List D → List D → Nv → Rs (List D)
  | [], acc, nv => .ok acc nv
  | d :: ds, acc, nv => (turn d nv).bind fun o nv1 => match o with
    | some y => if acc.length < SZ then compLoop turn ds (acc ++ [y]) nv1 else .stuck
    | none => compLoop turn ds acc nv1
/-- a called def: its result and the slots of its parameters behind it -/
inductive Cr where
  | ok (r : R) (outs : List Sl) | exc (c : Nat) (as : List D) (outs : List Sl) | stuck
abbrev Fn := Nat → List Sl → Cr
/-- how the written arguments come to the parameters -/
abbrev Shape := List (Nat ⊕ D)
def slotsOf (nv : Nv) : List (D ⊕ Nat) → Option (List Sl)
  | [] => some []
  | .inl d :: r => (slotsOf nv r).map (.val d :: ·)
  | .inr i :: r => match nv[i]? with
    | some (some (.val d)) => (slotsOf nv r).map (.val d :: ·)
    | some (some (.lv _ ds)) => (slotsOf nv r).map (.lv false ds :: ·)
    | _ => none
def brws : List (D ⊕ Nat) → List Nat
  | [] => []
  | .inl _ :: r => brws r
  | .inr i :: r => i :: brws r
def putBack (nv : Nv) : List (D ⊕ Nat) → List Sl → Option Nv
  | [], _ => some nv
  | .inl _ :: r, _ :: ss => putBack nv r ss
  | .inr i :: r, s :: ss => match putBack nv r ss, nv[i]?, s with
    | some nv1, some (some (.lv f _)), .lv _ ds => some (nv1.set i (some (.lv f ds)))
    | some nv1, some (some (.val _)), _ => some nv1
    | _, _, _ => none
  | _ :: _, [] => none
def arrO : Shape → List (D ⊕ Nat) → Option (List (D ⊕ Nat))
  | [], _ => some []
  | .inl j :: r, os => match os[j]?, arrO r os with
    | some o, some r' => some (o :: r')
    | _, _ => none
  | .inr d :: r, os => (arrO r os).map (.inl d :: ·)
/-- the call itself -/
def callOn (Φ : Fn) (f : Nat) (sh : Shape) (os : List (D ⊕ Nat)) (nv1 : Nv) : Rs R := match arrO sh os with
  | none => .stuck
  | some os' => match slotsOf nv1 os' with
    | none => .stuck
    | some ss => if (brws os').Nodup then match Φ f ss with
      | .ok r outs => match putBack nv1 os' outs with
        | some nv2 => .ok r nv2
        | none => .stuck
      | .exc c as outs => match putBack nv1 os' outs with
        | some nv2 => .exc c as nv2
        | none => .stuck
      | .stuck => .stuck
      else .stuck
def mthD (m : Mt) (xs : List D) : List D → Option (D × List D)
  | args => match m, args with
    | .app, [y] => if xs.length < SZ then some (.non, xs ++ [y]) else none
    | .ext, [.lst ys] => if xs.length + ys.length ≤ SZ then some (.non, xs ++ ys) else none
    | .pop, [] => match xs[xs.length - 1]? with
      | some y => some (y, xs.dropLast)
      | none => none
    | .popi, [.int i] => if -(2 ^ 63) ≤ i ∧ i < 2 ^ 63 then match ixN xs.length i with
      | some k => match xs[k]? with
        | some y => some (y, xs.eraseIdx k)
        | none => none
      | none => none else none
    | .rvs, [] => some (.non, xs.reverse)
    | _, _ => none
def inls : List (D ⊕ Nat) → Option (List D)
  | [] => some []
  | .inl d :: r => (inls r).map (d :: ·)
  | .inr _ :: _ => none
def argStep (e : E) (nv : Nv) (re : Rs R) (rest : Nv → Rs (List (D ⊕ Nat))) : Rs (List (D ⊕ Nat)) := match e with
  | .brw i => match nv[i]? with
    | some (some _) => (rest nv).bind fun os nv1 => .ok (.inr i :: os) nv1
    | _ => .stuck
  | _ => re.bind fun r nv1 => (rest nv1).bind fun os nv2 => .ok (.inl r.frz :: os) nv2
/-- a method that changes the list of slot i -/
def mthOn (m : Mt) (i : Nat) (nv : Nv) (re : Rs (List (D ⊕ Nat))) : Rs R := match nv[i]? with
  | some (some (.lv _ _)) => re.bind fun os nv1 => match inls os, nv1[i]? with
    | some ds, some (some (.lv f xs)) => match mthD m xs ds with
      | some (y, ys) => .ok (.val y) (nv1.set i (some (.lv f ys)))
      | none => .stuck
    | _, _ => .stuck
  | _ => .stuck
section
variable (Φ : Fn) (shs : Nat → Nat → Shape)
mutual
def evE : E → Nv → Rs R
  | .var i, nv => rdVar i nv
  | .mov i, nv => mvVar i nv
  | .brw _, _ => .stuck
  | .non, nv => .ok (.val .non) nv
  | .bl b, nv => .ok (.val (.bl b)) nv
  | .int i, nv => .ok (.val (.int i)) nv
  | .str s, nv => .ok (.val (.str s)) nv
  | .op1 p a, nv => (opd a nv (evE a nv)).bind fun x nv1 => Rs.of ((look nv1 x).bind (p1 p)) nv1
  | .op2 p a b, nv => (opd a nv (evE a nv)).bind fun x nv1 => (opd b nv1 (evE b nv1)).bind fun y nv2 =>
    Rs.of ((look nv2 x).bind fun d => (look nv2 y).bind fun e => p2 p d e) nv2
  | .mop p a b, nv => (opd a nv (evE a nv)).bind fun x nv1 => match look nv1 x with
    | none => .stuck
    | some d0 => if recv p d0 = true then (opd b nv1 (evE b nv1)).bind fun y nv2 =>
        Rs.of ((look nv2 x).bind fun d => (look nv2 y).bind fun e => pm p d e) nv2
      else .stuck
  | .tup es, nv => (evOs es nv).bind fun os nv1 => Rs.of ((inls os).bind fun ds => if ds.length ≤ SZ then some (.val (.tup ds)) else none) nv1
  | .lst es, nv => (evOs es nv).bind fun os nv1 => Rs.of ((inls os).bind fun ds => if ds.length ≤ SZ then some (.own ds) else none) nv1
  | .and_ a b, nv => (evE a nv).bind fun r nv1 => match r with
    | .val (.bl true) => evE b nv1
    | .val (.bl false) => .ok (.val (.bl false)) nv1
    | _ => .stuck
  | .or_ a b, nv => (evE a nv).bind fun r nv1 => match r with
    | .val (.bl true) => .ok (.val (.bl true)) nv1
    | .val (.bl false) => evE b nv1
    | _ => .stuck
  | .not_ a, nv => (evE a nv).bind fun r nv1 => match r with
    | .val (.bl k) => .ok (.val (.bl (!k))) nv1
    | _ => .stuck
  | .ife c a b, nv => (evE c nv).bind fun r nv1 => match r with
    | .val (.bl true) => evE a nv1
    | .val (.bl false) => evE b nv1
    | _ => .stuck
  | .slc a lo hi, nv => (opd a nv (evE a nv)).bind fun x nv1 => (evE lo nv1).bind fun l nv2 => (evE hi nv2).bind fun h nv3 =>
    Rs.of ((look nv3 x).bind fun d => (part lo l.frz).bind fun l => (part hi h.frz).bind fun h => pSlc d l h) nv3
  | .call f sh es, nv => (evOs es nv).bind fun os nv1 => callOn Φ f (shs f sh) os nv1
  | .comp t k es cs elt own, nv => (evOs es nv).bind fun os nv1 => match items k os with
    | none => .stuck
    | some xs => (compLoop (fun d nv => (asgD t d nv).bind fun _ nv2 => (evCs cs nv2).bind fun b nv3 =>
        if b = true then (evE elt nv3).bind fun r nv4 => .ok (some r.frz) (wipeN nv4 own) else .ok none (wipeN nv3 own)) xs [] (wipeN nv1 own)).nox.bind fun ys nv5 => .ok (.own ys) (back nv1 nv5 own)
  | .mth m i es, nv => mthOn m i nv (evOs es nv)
def evOs : List E → Nv → Rs (List (D ⊕ Nat))
  | [], nv => .ok [] nv
  | e :: es, nv => argStep e nv (evE e nv) (evOs es)
/-- all tests -/
def evCs : List E → Nv → Rs Bool
  | [], nv => .ok true nv
  | e :: es, nv => (evE e nv).bind fun r nv1 => match r with
    | .val (.bl true) => evCs es nv1
    | .val (.bl false) => .ok false nv1
    | _ => .stuck
end
end
/-! ### statements -/
inductive S where
  | asg (t : T) (e : E) | expr (e : E) | ife (c : E) (a b : List S) | for_ (t : T) (k : Ik) (es : List E) (body : List S) | whl (c : E) (body : List S)
  | ret (e : E) | retN | pas | brk | cnt | aug (i : Nat) (p : P2) (e : E) | sti (i : Nat) (ix e : E) | augi (i : Nat) (p : P2) (ix e : E) | par (i j : Nat) (a b : E)
  | rse (c : Nat) | try1 (body : List S) (c : Nat) (suite : List S)
  deriving Inhabited
inductive Fl where
  | nx | brk | cnt | ret (r : R)
def forLoop (body : D → Nv → Rs Fl) : List D → Nv → Rs Fl
  | [], nv => .ok .nx nv
  | d :: ds, nv => (body d nv).bind fun f nv1 => match f with
    | .nx => forLoop body ds nv1
    | .cnt => forLoop body ds nv1
    | .brk => .ok .nx nv1
    | .ret r => .ok (.ret r) nv1
def whlLoop (test : Nv → Rs R) (body : Nv → Rs Fl) : Nat → Nv → Rs Fl
  | 0, _ => .stuck
  | n + 1, nv => (test nv).bind fun r nv1 => match r with
    | .val (.bl false) => .ok .nx nv1
    | .val (.bl true) => (body nv1).bind fun f nv2 => match f with
      | .nx => whlLoop test body n nv2
      | .cnt => whlLoop test body n nv2
      | .brk => .ok .nx nv2
      | .ret r => .ok (.ret r) nv2
    | _ => .stuck
def stIx (i : Nat) (ix d : D) (nv : Nv) : Rs Unit := match nv[i]?, ix with
  | some (some (.lv f xs)), .int k => match ixN xs.length k with
    | some j => .ok () (nv.set i (some (.lv f (xs.set j d))))
    | none => .stuck
  | _, _ => .stuck
section
variable (Φ : Fn) (shs : Nat → Nat → Shape)
mutual
def evS : S → Nv → Rs Fl
  | .asg t e, nv => (evE Φ shs e nv).bind fun r nv1 => (asgR t r nv1).bind fun _ nv2 => .ok .nx nv2
  | .expr e, nv => (evE Φ shs e nv).bind fun _ nv1 => .ok .nx nv1
  | .ife c a b, nv => (evE Φ shs c nv).bind fun r nv1 => match r with
    | .val (.bl true) => evB a nv1
    | .val (.bl false) => evB b nv1
    | _ => .stuck
  | .for_ t k es body, nv => (evOs Φ shs es nv).bind fun os nv1 => match items k os with
    | none => .stuck
    | some xs => forLoop (fun d nv => (asgD t d nv).bind fun _ nv2 => evB body nv2) xs nv1
  | .whl c body, nv => whlLoop (evE Φ shs c) (evB body) 1000000 nv
  | .ret e, nv => (evE Φ shs e nv).bind fun r nv1 => .ok (.ret r) nv1
  | .retN, nv => .ok (.ret (.val .non)) nv
  | .pas, nv => .ok .nx nv
  | .brk, nv => .ok .brk nv
  | .cnt, nv => .ok .cnt nv
  | .aug i p e, nv => match nv[i]? with
    | some (some (.val d)) => (evE Φ shs e nv).bind fun r nv1 => (Rs.of (p2 p d r.frz) nv1).bind fun r2 nv2 => (stSlot i r2.slot nv2).bind fun _ nv3 => .ok .nx nv3
    | _ => .stuck
  | .sti i ix e, nv => (evE Φ shs e nv).bind fun r nv1 => match nv1[i]? with
    | some (some (.lv _ _)) => (evE Φ shs ix nv1).bind fun k nv2 => (stIx i k.frz r.frz nv2).bind fun _ nv3 => .ok .nx nv3
    | _ => .stuck
  | .augi i p ix e, nv => (evE Φ shs ix nv).bind fun k nv1 => (Rs.of ((look nv1 (.inr i)).bind fun xs => pIx xs k.frz) nv1).bind fun old nv2 => (evE Φ shs e nv2).bind fun r nv3 =>
    (Rs.of (p2 p old.frz r.frz) nv3).bind fun r2 nv4 => (stIx i k.frz r2.frz nv4).bind fun _ nv5 => .ok .nx nv5
  | .par i j a b, nv => (evE Φ shs a nv).bind fun x nv1 => (evE Φ shs b nv1).bind fun y nv2 => (stSlot j y.slot nv2).bind fun _ nv3 => (stSlot i x.slot nv3).bind fun _ nv4 => .ok .nx nv4
  | .rse c, nv => .exc c [] nv
  | .try1 body c suite, nv => match evB body nv with
    | .exc c' _ nv1 => if c = c' then evB suite nv1 else .stuck
    | r => r
def evB : List S → Nv → Rs Fl
  | [], nv => .ok .nx nv
  | s :: ss, nv => (evS s nv).bind fun f nv1 => match f with
    | .nx => evB ss nv1
    | f => .ok f nv1
end
/-- a def: how many slots, which parameters may be lent (they are never stored over), the body -/
structure Df where
  n : Nat
  pr : List Nat
  body : List S
def lentOk (pr : List Nat) (ss : List Sl) : Bool := (List.range ss.length).all fun p => match ss[p]? with
  | some (.lv _ _) => pr.contains p
  | _ => true
def outsOf (pr : List Nat) (ss : List Sl) (nv : Nv) : Option (List Sl) := (List.range ss.length).mapM fun p => if pr.contains p = true then nv[p]?.join else ss[p]?
def endDf (pr : List Nat) (ss : List Sl) : Rs Fl → Cr
  | .ok (.ret r) nv => match outsOf pr ss nv with
    | some outs => .ok r outs
    | none => .stuck
  | .ok .nx nv => match outsOf pr ss nv with
    | some outs => .ok (.val .non) outs
    | none => .stuck
  | .exc c as nv => match outsOf pr ss nv with
    | some outs => .exc c as outs
    | none => .stuck
  | _ => .stuck
def startNv (n : Nat) (ss : List Sl) : Nv := ss.map some ++ List.replicate (n - ss.length) none
def runDf (d : Df) (ss : List Sl) : Cr := if lentOk d.pr ss = true then endDf d.pr ss (evB Φ shs d.body (startNv d.n ss)) else .stuck
end
/-- all defs, to a depth -/
def calls (ds : List Df) (shs : Nat → Nat → Shape) : Nat → Fn
  | 0, _, _ => .stuck
  | n + 1, f, ss => match ds[f]? with
    | some d => runDf (calls ds shs n) shs d ss
    | none => .stuck
end G
namespace G
open PySem PySem.Spec PyProof.Rows L2
/-- where a body runs -/
structure Cfg where
  P : Program
  w : World
  K : PySem.W.Frag
  mg : Str → Option Value
  base : Heap
  N : List Str
  sc : Scope
  st : Str → Bool
  k : Nat
  exA : Nat → Option Addr
  pr : List Nat
structure AtE (C : Cfg) (W : WX) (X : Cx) : Prop where
  prog : X.prog = C.P
  w : X.w = C.w
  K : X.K = C.K
  mg : X.mg = C.mg
  base : X.base = C.base
  N : X.N = C.N
  sc : X.env.scope = C.sc
  calm : X.calm = true
  room : Room C.k X.A
  nd : X.N.Nodup
  tk : Takes X W
  fn : ∀ x, C.st x = true → Loc X.env.scope x ∧ (X.fn x = true ∨ X.env.scope.names.lookup x = some .local)
section
variable {C : Cfg} {W : WX} {X : Cx}
def tE (C : Cfg) (W : WX) (x : Expr) : TE := fun σ H Q => ∀ X, AtE C W X → ∀ pins s, Inv X pins σ H s → wpAny (model X.prog X.w) X.A (eval x X.env) (EP X pins σ Q) X.xe s
def tT (C : Cfg) (W : WX) (x : Expr) : TT := fun σ H Q => ∀ X, AtE C W X → ∀ pins s, Inv X pins σ H s → wpAny (model X.prog X.w) X.A (isTrue x X.env (eval x X.env)) (TP X pins σ Q) X.xe s
def tA (C : Cfg) (W : WX) (xs : List Expr) : TA := fun σ H Q => ∀ X, AtE C W X → ∀ pos pins s, Inv X pins σ H s → wpAny (model X.prog X.w) X.A (spliced (backTo pos (starEach xs X.env))) (AP X pins σ Q) X.xe s
theorem PEo (h : AtE C W X) (x : Expr) : PE X x (tE C W x) := ⟨fun pins s σ H Q I t => t X h pins s I⟩
theorem PTo (h : AtE C W X) (x : Expr) : PT X x (tT C W x) := ⟨fun pins s σ H Q I t => t X h pins s I⟩
theorem PAo (h : AtE C W X) (x : List Expr) : PA X x (tA C W x) := ⟨fun pos pins s σ H Q I t => t X h pos pins s I⟩
theorem tE.by {x : Expr} {t : TE} {σ : L2.St} {H : Hp} {Q : VK} (pe : ∀ X, AtE C W X → PE X x t) (h : t σ H Q) : tE C W x σ H Q := fun X hX pins s I => (pe X hX).run pins s σ H Q I h
theorem tT.by {x : Expr} {t : TT} {σ : L2.St} {H : Hp} {Q : Bool → Hp → Prop} (pe : ∀ X, AtE C W X → PT X x t) (h : t σ H Q) : tT C W x σ H Q := fun X hX pins s I => (pe X hX).run pins s σ H Q I h
theorem tA.by {x : List Expr} {t : TA} {σ : L2.St} {H : Hp} {Q : List V → Hp → Prop} (pe : ∀ X, AtE C W X → PA X x t) (h : t σ H Q) : tA C W x σ H Q := fun X hX pos pins s I => (pe X hX).run pos pins s σ H Q I h
def ExR (C : Cfg) (c : Nat) (as : List D) (cls : Value) (d : Option Addr) (H : Hp) : Prop := ∃ a, C.exA c = some a ∧ cls = .ref a ∧ d = none ∧ as = []
/-- behind an evaluation -/
def DoneE (C : Cfg) (W : WX) (M H : Hp) (σ : L2.St) (nv : Nv) (res : Rs R) (Q : VK) : Prop := match res with
  | .ok r nv' => ∀ v M' H', Step M H (Own σ nv) M' H' (fun a => Own σ nv' a ∨ ResO r v a) → StR C.K M' H' σ nv' → RR C.K M' H' (Own σ nv') r v → Q v H'
  | .exc c as nv' => ∀ cls d M' H', Step M H (Own σ nv) M' H' (Own σ nv') → StR C.K M' H' σ nv' → ExR C c as cls d H' → W cls d σ H'
  | .stuck => False
def DoneX {α : Type} (C : Cfg) (W : WX) (M H : Hp) (σ : L2.St) (nv : Nv) (res : Rs α) (post : α → Nv → Hp → Hp → Prop) : Prop := match res with
  | .ok a nv' => ∀ M' H', Step M H (Own σ nv) M' H' (Own σ nv') → StR C.K M' H' σ nv' → post a nv' M' H'
  | .exc c as nv' => ∀ cls d M' H', Step M H (Own σ nv) M' H' (Own σ nv') → StR C.K M' H' σ nv' → ExR C c as cls d H' → W cls d σ H'
  | .stuck => False
variable {M H M1 H1 : Hp} {σ : L2.St} {nv nv1 : Nv}
theorem DoneE.later {res : Rs R} {Q : VK} (h : DoneE C W M H σ nv res Q) (s : Step M H (Own σ nv) M1 H1 (Own σ nv1)) : DoneE C W M1 H1 σ nv1 res Q := by
  cases res with
  | ok r nv' => exact fun v M' H' s' => h v M' H' (s.trans s')
  | exc c as nv' => exact fun cls d M' H' s' => h cls d M' H' (s.trans s')
  | stuck => exact h
theorem DoneX.later {α : Type} {res : Rs α} {post : α → Nv → Hp → Hp → Prop} (h : DoneX C W M H σ nv res post) (s : Step M H (Own σ nv) M1 H1 (Own σ nv1)) : DoneX C W M1 H1 σ nv1 res post := by
  cases res with
  | ok r nv' => exact fun M' H' s' => h M' H' (s.trans s')
  | exc c as nv' => exact fun cls d M' H' s' => h cls d M' H' (s.trans s')
  | stuck => exact h
theorem DoneX.imp {α : Type} {res : Rs α} {post post' : α → Nv → Hp → Hp → Prop} (h : DoneX C W M H σ nv res post) (k : ∀ a nv' M' H', Step M H (Own σ nv) M' H' (Own σ nv') → StR C.K M' H' σ nv' → post a nv' M' H' → post' a nv' M' H') : DoneX C W M H σ nv res post' := by
  cases res with
  | ok r nv' => exact fun M' H' s' st => k _ _ _ _ s' st (h M' H' s' st)
  | exc c as nv' => exact h
  | stuck => exact h
def SndE (C : Cfg) (W : WX) (x : Expr) (f : Nv → Rs R) : Prop := ∀ M H σ nv Q, StR C.K M H σ nv → DoneE C W M H σ nv (f nv) Q → tE C W x σ H Q
/-- first x, frozen, then what g says -/
theorem SndE.then {x : Expr} {f : Nv → Rs R} {α : Type} {g : R → Nv → Rs α} {post : α → Nv → Hp → Hp → Prop} {Q : VK} (h : SndE C W x f) (st : StR C.K M H σ nv) (hd : DoneX C W M H σ nv ((f nv).bind g) post)
    (k : ∀ r nv1 v M1 H1, f nv = .ok r nv1 → StR C.K M1 H1 σ nv1 → Rep C.K M1 r.frz v → Step M H (Own σ nv) M1 H1 (Own σ nv1) → DoneX C W M1 H1 σ nv1 (g r nv1) post → Q v H1) : tE C W x σ H Q := by
  refine h M H σ nv Q st ?_
  cases e : f nv with
  | ok r nv1 =>
    rw [e] at hd
    intro v M' H' s st' rr
    obtain ⟨M2, st2, rp, s2, _⟩ := freeze st' rr s
    exact k r nv1 v M2 H' e st2 rp s2 (DoneX.later hd s2)
  | exc c as nv1 => rw [e] at hd; exact hd
  | stuck => rw [e] at hd; exact hd.elim
theorem SndE.thenE {x : Expr} {f : Nv → Rs R} {g : R → Nv → Rs R} {Q Q' : VK} (h : SndE C W x f) (st : StR C.K M H σ nv) (hd : DoneE C W M H σ nv ((f nv).bind g) Q')
    (k : ∀ r nv1 v M1 H1, f nv = .ok r nv1 → StR C.K M1 H1 σ nv1 → Rep C.K M1 r.frz v → Step M H (Own σ nv) M1 H1 (Own σ nv1) → DoneE C W M1 H1 σ nv1 (g r nv1) Q' → Q v H1) : tE C W x σ H Q := by
  refine h M H σ nv Q st ?_
  cases e : f nv with
  | ok r nv1 =>
    rw [e] at hd
    intro v M' H' s st' rr
    obtain ⟨M2, st2, rp, s2, _⟩ := freeze st' rr s
    exact k r nv1 v M2 H' e st2 rp s2 (DoneE.later hd s2)
  | exc c as nv1 => rw [e] at hd; exact hd
  | stuck => rw [e] at hd; exact hd.elim
/-! ### operands: a name is looked at when the operation is done -/
def OpdR (K : PySem.W.Frag) (M : Hp) (σ : L2.St) : D ⊕ Nat → V → Prop
  | .inl d, v => Rep K M d v
  | .inr i, v => σ[i]? = some (some v)
theorem OpdR.mono {K : PySem.W.Frag} {M M' : Hp} {σ : L2.St} {o : D ⊕ Nat} {v : V} (e : Same M M') (h : OpdR K M σ o v) : OpdR K M' σ o v := by
  cases o with
  | inl d => exact Rep.mono e h
  | inr i => exact h
/-- a list may be own at the top -/
def RepT (K : PySem.W.Frag) (M H : Hp) : D → V → Prop
  | .lst ds, v => ∃ a vs, v = .ref a ∧ H a = some (.lst vs) ∧ Reps K M ds vs
  | .tup ds, v => ∃ a vs, v = .ref a ∧ SqT K M a vs ∧ Reps K M ds vs
  | .non, v => v = .non
  | .bl b, v => v = .bl b
  | .int i, v => v = .int i
  | .str s, v => v = .str s
  | .scr ns, v => ∃ a, v = .ref a ∧ SqL K M a (ns.map V.int)
theorem Rep.top {K : PySem.W.Frag} {M H : Hp} {d : D} {v : V} (e : Same M H) (h : Rep K M d v) : RepT K M H d v := by
  cases d with
  | lst ds =>
    simp only [Rep] at h
    obtain ⟨a, vs, h1, h2, h3⟩ := h
    exact ⟨a, vs, h1, e _ _ h2, h3⟩
  | tup ds => simpa only [Rep, RepT] using h
  | non => simpa only [Rep, RepT] using h
  | bl b => simpa only [Rep, RepT] using h
  | int i => simpa only [Rep, RepT] using h
  | str s => simpa only [Rep, RepT] using h
  | scr ns => simpa only [Rep, RepT] using h
theorem look_ok {K : PySem.W.Frag} {o : D ⊕ Nat} {v : V} {d : D} (st : StR K M H σ nv) (h : OpdR K M σ o v) (l : look nv o = some d) : RepT K M H d v := by
  cases o with
  | inl d' =>
    simp only [look, Option.some.injEq] at l
    subst l
    exact Rep.top st.ext h
  | inr i =>
    simp only [look] at l
    have h' : σ[i]? = some (some v) := h
    split at l
    · rename_i d' q
      simp only [Option.some.injEq] at l
      subst l
      obtain ⟨v', e1, e2⟩ := st.get i _ q
      rw [h'] at e1
      cases e1
      exact Rep.top st.ext e2
    · rename_i f ds q
      simp only [Option.some.injEq] at l
      subst l
      obtain ⟨v', e1, e2⟩ := st.get i _ q
      rw [h'] at e1
      cases e1
      obtain ⟨a, vs, e3, _, e5, e6⟩ := e2
      exact ⟨a, vs, e3, e5, e6⟩
    · cases l
def SndO (C : Cfg) (W : WX) (x : Expr) (f : Nv → Rs (D ⊕ Nat)) : Prop := ∀ M H σ nv Q, StR C.K M H σ nv → DoneX C W M H σ nv (f nv) (fun o nv' M' H' => ∀ v, OpdR C.K M' σ o v → Q v H') → tE C W x σ H Q
theorem SndO.then {x : Expr} {f : Nv → Rs (D ⊕ Nat)} {g : (D ⊕ Nat) → Nv → Rs R} {Q Q' : VK} (h : SndO C W x f) (st : StR C.K M H σ nv) (hd : DoneE C W M H σ nv ((f nv).bind g) Q')
    (k : ∀ o nv1 v M1 H1, f nv = .ok o nv1 → StR C.K M1 H1 σ nv1 → OpdR C.K M1 σ o v → Step M H (Own σ nv) M1 H1 (Own σ nv1) → DoneE C W M1 H1 σ nv1 (g o nv1) Q' → Q v H1) : tE C W x σ H Q := by
  refine h M H σ nv Q st ?_
  cases e : f nv with
  | ok o nv1 =>
    rw [e] at hd
    intro M' H' s st' v ov
    exact k o nv1 v M' H' e st' ov s (DoneE.later hd s)
  | exc c as nv1 => rw [e] at hd; exact hd
  | stuck => rw [e] at hd; exact hd.elim
/-! ### names -/
def okName (N : List Str) (sc : Scope) (i : Nat) (x : Str) : Bool := decide (N[i]? = some x) && (decide (sc.names.lookup x = some .local) || decide (sc.names.lookup x = some .cell) || decide (sc.names.lookup x = some .free)) && !(x == ("__debug__" : Str)) && !(x == ("__classdict__" : Str))
theorem okName_vis {N : List Str} {sc : Scope} {i : Nat} {x : Str} (h : okName N sc i x = true) : N[i]? = some x ∧ Vis sc x ∧ (x == ("__debug__" : Str)) = false ∧ (x == ("__classdict__" : Str)) = false := by
  unfold okName at h
  simp only [Bool.and_eq_true, Bool.or_eq_true, decide_eq_true_eq, Bool.not_eq_true'] at h
  obtain ⟨⟨⟨h1, h2⟩, h3⟩, h4⟩ := h
  refine ⟨h1, ?_, h3, h4⟩
  rcases h2 with (h2 | h2) | h2
  · exact .inl h2
  · exact .inr (.inl h2)
  · exact .inr (.inr h2)
theorem pe_name {i : Nat} {x : Str} {pos : Pos} (h : okName C.N C.sc i x = true) (X : Cx) (hX : AtE C W X) : PE X (.Name x pos) (tVar i) := by
  obtain ⟨h1, h2, h3, h4⟩ := okName_vis h
  exact pe_var (by rw [hX.N]; exact h1) (by rw [hX.sc]; exact h2) h3 h4
theorem sndO_var {i : Nat} {x : Str} {pos : Pos} (h : okName C.N C.sc i x = true) (ra : Nv → Rs R) : SndO C W (.Name x pos) (fun nv => opd (.var i) nv (ra nv)) := by
  intro M H σ nv Q st hd
  refine tE.by (pe_name h) ?_
  simp only [opd] at hd
  split at hd
  · rename_i s q
    obtain ⟨v, e1, _⟩ := st.get i _ q
    exact ⟨v, e1, hd M H (Step.refl _ _ _) st v e1⟩
  · exact hd.elim
def isVar : E → Bool
  | .var _ => true
  | _ => false
theorem sndO_of {x : Expr} {a : E} {ra : Nv → Rs R} (na : isVar a = false) (h : SndE C W x ra) : SndO C W x (fun nv => opd a nv (ra nv)) := by
  intro M H σ nv Q st hd
  have e : opd a nv (ra nv) = (ra nv).bind fun r nv1 => .ok (.inl r.frz) nv1 := by
    cases a <;> first | rfl | (cases na)
  have hd : DoneX C W M H σ nv (opd a nv (ra nv)) _ := hd
  rw [e] at hd
  exact SndE.then h st hd fun r nv1 v M1 H1 e1 st1 rp s1 hd1 => hd1 M1 H1 (Step.refl _ _ _) st1 v rp
/-! ### operations on data -/
structure Prim (M H M' H' : Hp) : Prop where
  mm : Same M M'
  hh : Same H H'
  ext : Same M' H'
  mnew : ∀ a o, M' a = some o → M a = some o ∨ H a = none
theorem Prim.refl (e : Same M H) : Prim M H M H := ⟨Same.refl _, Same.refl _, e, fun _ _ h => .inl h⟩
def PR (K : PySem.W.Frag) (M H M' H' : Hp) : R → V → Prop
  | .val d, v => Rep K M' d v
  | .own ds, v => ∃ a vs, v = .ref a ∧ H' a = some (.lst vs) ∧ M' a = none ∧ H a = none ∧ Reps K M' ds vs
theorem prim_done {r : R} {v : V} {Q : VK} {M' H' : Hp} (hd : DoneE C W M H σ nv (.ok r nv) Q) (st : StR C.K M H σ nv) (p : Prim M H M' H') (h : PR C.K M H M' H' r v) : Q v H' := by
  have own : ∀ a, Own σ nv a → M' a = none := fun a h => by
    cases e : M' a with
    | none => rfl
    | some o =>
      obtain ⟨h1, vs, h2⟩ := st.own_at h
      rcases p.mnew a o e with z | z
      · rw [h1] at z; cases z
      · rw [h2] at z; cases z
  have st' : StR C.K M' H' σ nv := st.grow p.mm (fun a o h => p.hh a o h) p.ext own
  have dom : ∀ a, H' a = none → H a = none := fun a h => by
    cases e : H a with
    | none => rfl
    | some o => rw [p.hh a o e] at h; cases h
  have mnew : ∀ a o, M' a = some o → M a = some o ∨ Own σ nv a ∨ H a = none := fun a o h => (p.mnew a o h).elim .inl fun z => .inr (.inr z)
  cases r with
  | val d => exact hd v M' H' ⟨p.mm, fun a o h _ => p.hh a o h, fun a h => .inl (h.elim id False.elim), dom, mnew⟩ st' h
  | own ds =>
    obtain ⟨a, vs, rfl, h1, h2, h3, h4⟩ := h
    refine hd _ M' H' ⟨p.mm, fun a o h _ => p.hh a o h, fun b hb => ?_, dom, mnew⟩ st' ⟨a, vs, rfl, h1, h2, fun z => ?_, h4⟩
    · rcases hb with z | z
      · exact .inl z
      · have z' : V.ref a = V.ref b := z
        injection z' with z'
        exact .inr (z' ▸ h3)
    · obtain ⟨_, vs', h5⟩ := st.own_at z
      rw [h3] at h5; cases h5
abbrev Ok1 (K : PySem.W.Frag) (r : V → Hp → VK → Prop) (p : D → Option R) : Prop := ∀ (M H : Hp) (d : D) (v : V) (res : R) (Q : VK), Same M H → RepT K M H d v → p d = some res →
  (∀ v' M' H', Prim M H M' H' → PR K M H M' H' res v' → Q v' H') → r v H Q
abbrev Ok2 (K : PySem.W.Frag) (r : V → V → Hp → VK → Prop) (p : D → D → Option R) : Prop := ∀ (M H : Hp) (d e : D) (v u : V) (res : R) (Q : VK), Same M H → RepT K M H d v → RepT K M H e u → p d e = some res →
  (∀ v' M' H', Prim M H M' H' → PR K M H M' H' res v' → Q v' H') → r v u H Q
section
variable {Φ : Fn} {shs : Nat → Nat → Shape}
theorem snd_op1 {x whole : Expr} {a : E} {p : P1} {r : V → Hp → VK → Prop} (ho : SndO C W x (fun nv => opd a nv (evE Φ shs a nv)))
    (pe : ∀ X, AtE C W X → PE X whole (fun σ H Q => tE C W x σ H fun v H1 => r v H1 Q)) (ok : Ok1 C.K r (p1 p)) : SndE C W whole (evE Φ shs (.op1 p a)) := by
  intro M H σ nv Q st hd
  refine tE.by pe ?_
  rw [evE] at hd
  refine SndO.then ho st hd fun o nv1 v M1 H1 e1 st1 ov s1 hd1 => ?_
  cases l : look nv1 o with
  | none => rw [l] at hd1; exact hd1.elim
  | some d =>
    rw [l] at hd1
    cases q : p1 p d with
    | none =>
      have : DoneE C W M1 H1 σ nv1 (Rs.of (p1 p d) nv1) Q := hd1
      rw [q] at this; exact this.elim
    | some res =>
      have hd2 : DoneE C W M1 H1 σ nv1 (Rs.of (p1 p d) nv1) Q := hd1
      rw [q] at hd2
      exact ok M1 H1 d v res Q st1.ext (look_ok st1 ov l) q fun v' M' H' p' h' => prim_done hd2 st1 p' h'
theorem snd_op2 {x y whole : Expr} {a b : E} {p : P2} {r : V → V → Hp → VK → Prop} (ho : SndO C W x (fun nv => opd a nv (evE Φ shs a nv))) (ho2 : SndO C W y (fun nv => opd b nv (evE Φ shs b nv)))
    (pe : ∀ X, AtE C W X → PE X whole (fun σ H Q => tE C W x σ H fun v H1 => tE C W y σ H1 fun u H2 => r v u H2 Q)) (ok : Ok2 C.K r (p2 p)) : SndE C W whole (evE Φ shs (.op2 p a b)) := by
  intro M H σ nv Q st hd
  refine tE.by pe ?_
  rw [evE] at hd
  refine SndO.then ho st hd fun o nv1 v M1 H1 e1 st1 ov s1 hd1 => ?_
  refine SndO.then ho2 st1 hd1 fun o2 nv2 u M2 H2 e2 st2 ou s2 hd2 => ?_
  have ov2 := OpdR.mono s2.mm ov
  cases l : look nv2 o with
  | none => rw [l] at hd2; exact hd2.elim
  | some d =>
    cases l2 : look nv2 o2 with
    | none => rw [l, l2] at hd2; exact hd2.elim
    | some e =>
      rw [l, l2] at hd2
      have hd3 : DoneE C W M2 H2 σ nv2 (Rs.of (p2 p d e) nv2) Q := hd2
      cases q : p2 p d e with
      | none => rw [q] at hd3; exact hd3.elim
      | some res =>
        rw [q] at hd3
        exact ok M2 H2 d e v u res Q st2.ext (look_ok st2 ov2 l) (look_ok st2 ou l2) q fun v' M' H' p' h' => prim_done hd3 st2 p' h'
end
/-- a scalar result -/
theorem PR.val0 {K : PySem.W.Frag} {Q : VK} {d : D} {v : V} (e : Same M H) (k : ∀ v' M' H', Prim M H M' H' → PR K M H M' H' (.val d) v' → Q v' H') (h : Rep K M d v) : Q v H := k v M H (Prim.refl e) h
/-- a new tuple, a new list -/
theorem PR.tup {K : PySem.W.Frag} {Q : VK} {ds : List D} {vs : List V} {p : Addr} (e : Same M H) (k : ∀ v' M' H', Prim M H M' H' → PR K M H M' H' (.val (.tup ds)) v' → Q v' H') (h : Reps K M ds vs) (np : H p = none) : Q (.ref p) (upd H p (.tup vs)) := by
  have mp : M p = none := by
    cases q : M p with
    | none => rfl
    | some o => rw [e _ _ q] at np; cases np
  have sm : Same M (upd M p (.tup vs)) := same_upd mp
  refine k (.ref p) (upd M p (.tup vs)) _ ⟨sm, same_upd np, fun a o h => ?_, fun a o h => ?_⟩ ?_
  · by_cases ha : a = p
    · subst ha; rw [upd_same] at h ⊢; exact h
    · rw [upd_ne ha] at h ⊢; exact e _ _ h
  · by_cases ha : a = p
    · subst ha; exact .inr np
    · rw [upd_ne ha] at h; exact .inl h
  · simp only [PR, Rep]
    exact ⟨p, vs, rfl, .inl (.inl upd_same), Reps.mono sm h⟩
theorem PR.lst {K : PySem.W.Frag} {Q : VK} {ds : List D} {vs : List V} {p : Addr} (e : Same M H) (k : ∀ v' M' H', Prim M H M' H' → PR K M H M' H' (.own ds) v' → Q v' H') (h : Reps K M ds vs) (np : H p = none) : Q (.ref p) (upd H p (.lst vs)) := by
  have mp : M p = none := by
    cases q : M p with
    | none => rfl
    | some o => rw [e _ _ q] at np; cases np
  refine k (.ref p) M _ ⟨Same.refl _, same_upd np, fun a o h => ?_, fun a o h => .inl h⟩ ?_
  · rw [upd_ne (ne_of_none h mp)]; exact e _ _ h
  · exact ⟨p, vs, rfl, upd_same, mp, np, h⟩
end
end G
namespace G
open PySem PySem.Spec PyProof.Rows L2
section
variable {K : PySem.W.Frag}
/-- the shape of data from the shape of the value -/
theorem bnd {α : Type} {o : Option α} {f : α → R} {r : R} (h : o.map f = some r) : ∃ a, o = some a ∧ f a = r := by
  cases o with
  | none => cases h
  | some a => exact ⟨a, rfl, Option.some.inj h⟩
theorem SqT.up {M H : Hp} {a : Addr} {vs : List V} (e : Same M H) (h : SqT K M a vs) : SqT K H a vs := Same.sqt e h
theorem SZ_le {n : Nat} (h : n ≤ SZ) : n ≤ sizeLine := by rw [sizeLine_eq]; exact h
theorem ok_add : Ok2 K (fun x y H Q => rI0 (fun i j => .int (i + j)) x y H Q ∨ (∃ i j, x = .str i ∧ y = .str j ∧ i.length + j.length ≤ sizeLine ∧ Q (.str (i ++ j)) H) ∨ rCatA K x y H Q ∨ rCat x y H Q) pAdd := by
  intro M H d e v u res Q sm rd re q k
  cases d <;> cases e <;> simp only [pAdd] at q <;> try cases q
  · rename_i i j
    simp only [RepT] at rd re
    exact .inl ⟨i, j, rd, re, PR.val0 sm k (by simp [Rep])⟩
  · rename_i i j
    simp only [RepT] at rd re
    split at q <;> try cases q
    rename_i hz
    exact .inr (.inl ⟨i, j, rd, re, SZ_le hz, PR.val0 sm k (by simp [Rep])⟩)
  · rename_i xs ys
    split at q <;> try cases q
    rename_i hz
    obtain ⟨a, vs, rfl, h1, h2⟩ := rd
    obtain ⟨b, ws, rfl, h3, h4⟩ := re
    refine .inr (.inr (.inl ⟨a, b, vs, ws, rfl, rfl, SqT.up sm h1, SqT.up sm h3, ?_, fun z => ?_, fun _ z => ?_, fun _ _ p np => ?_⟩))
    · rw [← h2.length, ← h4.length]; exact SZ_le hz
    · have e0 : xs = [] := List.length_eq_zero_iff.mp (by have := h2.length; rw [z] at this; exact this)
      subst e0
      refine PR.val0 sm k ?_
      simp only [Rep, List.nil_append]
      exact ⟨b, ws, rfl, h3, h4⟩
    · have e0 : ys = [] := List.length_eq_zero_iff.mp (by have := h4.length; rw [z] at this; exact this)
      subst e0
      refine PR.val0 sm k ?_
      simp only [Rep, List.append_nil]
      exact ⟨a, vs, rfl, h1, h2⟩
    · exact PR.tup sm k (h2.append h4) np
  · rename_i xs ys
    split at q <;> try cases q
    rename_i hz
    obtain ⟨a, vs, rfl, h1, h2⟩ := rd
    obtain ⟨b, ws, rfl, h3, h4⟩ := re
    refine .inr (.inr (.inr ⟨a, b, vs, ws, rfl, rfl, h1, h3, ?_, fun p np => PR.lst sm k (h2.append h4) np⟩))
    rw [← h2.length, ← h4.length]; exact SZ_le hz
theorem ok_sub : Ok2 K (rI0 fun i j => .int (i - j)) pSub := by
  intro M H d e v u res Q sm rd re q k
  cases d <;> cases e <;> simp only [pSub] at q <;> try cases q
  simp only [RepT] at rd re
  exact ⟨_, _, rd, re, PR.val0 sm k (by simp [Rep])⟩
theorem ok_mul : Ok2 K (fun x y H Q => rI CMul (fun i j => .int (i * j)) x y H Q ∨ rRep x y H Q) pMul := by
  intro M H d e v u res Q sm rd re q k
  cases d <;> cases e <;> simp only [pMul] at q <;> try cases q
  · split at q <;> try cases q
    rename_i hz
    simp only [RepT] at rd re
    exact .inl ⟨_, _, rd, re, hz, PR.val0 sm k (by simp [Rep])⟩
  · split at q <;> try cases q
    rename_i xs n hz
    obtain ⟨a, vs, rfl, h1, h2⟩ := rd
    simp only [RepT] at re
    refine .inr ⟨a, n, vs, rfl, re, h1, hz.1, hz.2.1, ?_, fun p np => PR.lst sm k ?_ np⟩
    · rw [← h2.length]; exact SZ_le hz.2.2
    · generalize n.toNat = m
      induction m with
      | zero => simp [Reps]
      | succ m ih =>
        rw [List.replicate_succ, List.replicate_succ, List.flatten_cons, List.flatten_cons]
        exact h2.append ih
theorem ok_fdiv : Ok2 K (rI CDiv fun i j => .int (i / j)) pFdiv := by
  intro M H d e v u res Q sm rd re q k
  cases d <;> cases e <;> simp only [pFdiv] at q <;> try cases q
  split at q <;> try cases q
  rename_i hz
  simp only [RepT] at rd re
  exact ⟨_, _, rd, re, hz, PR.val0 sm k (by simp [Rep])⟩
theorem ok_mod : Ok2 K (rI (fun _ j => 0 < j) fun i j => .int (i % j)) pMod := by
  intro M H d e v u res Q sm rd re q k
  cases d <;> cases e <;> simp only [pMod] at q <;> try cases q
  split at q <;> try cases q
  rename_i hz
  simp only [RepT] at rd re
  exact ⟨_, _, rd, re, hz, PR.val0 sm k (by simp [Rep])⟩
theorem ok_pow : Ok2 K (rI CPow fun i j => .int (i ^ j.toNat)) pPow := by
  intro M H d e v u res Q sm rd re q k
  cases d <;> cases e <;> simp only [pPow] at q <;> try cases q
  split at q <;> try cases q
  rename_i hz
  simp only [RepT] at rd re
  exact ⟨_, _, rd, re, hz, PR.val0 sm k (by simp [Rep])⟩
theorem ok_cmp (f : Int → Int → Bool) : Ok2 K (rI0 fun i j => .bl (f i j)) (pCmp f) := by
  intro M H d e v u res Q sm rd re q k
  cases d <;> cases e <;> simp only [pCmp] at q <;> try cases q
  simp only [RepT] at rd re
  exact ⟨_, _, rd, re, PR.val0 sm k (by simp [Rep])⟩
theorem deq_ok {M H : Hp} {d e : D} {v u : V} {b : Bool} (rd : RepT K M H d v) (re : RepT K M H e u) (h : deq d e = some b) : scal v u = true ∧ decide (v = u) = b := by
  cases d <;> cases e <;> simp only [deq] at h <;> try cases h
  all_goals (simp only [RepT] at rd re; subst rd; subst re)
  all_goals first
    | exact ⟨rfl, by simp⟩
    | exact ⟨rfl, rfl⟩
theorem ok_eq : Ok2 K rEq (p2 .eq) := by
  intro M H d e v u res Q sm rd re q k
  obtain ⟨b, h1, h2⟩ := bnd q
  obtain ⟨h3, h4⟩ := deq_ok rd re h1
  refine ⟨h3, ?_⟩
  rw [h4]
  subst h2
  exact PR.val0 sm k (by simp [Rep])
theorem ok_ne : Ok2 K rNe (p2 .ne) := by
  intro M H d e v u res Q sm rd re q k
  obtain ⟨b, h1, h2⟩ := bnd q
  obtain ⟨h3, h4⟩ := deq_ok rd re h1
  refine ⟨h3, ?_⟩
  rw [h4]
  subst h2
  exact PR.val0 sm k (by simp [Rep])
theorem atI_reps {M : Hp} {ds : List D} {vs : List V} {i : Int} {d : D} (h : Reps K M ds vs) (e : atI ds i = some d) : ∃ v, atI vs i = some v ∧ Rep K M d v := by
  unfold atI at e ⊢
  rw [← h.length]
  cases q : ixN ds.length i with
  | none => rw [q] at e; cases e
  | some j =>
    rw [q] at e
    exact h.get e
theorem ok_ix : Ok2 K (rIx K) pIx := by
  intro M H d e v u res Q sm rd re q k
  cases d <;> cases e <;> simp only [pIx] at q <;> try cases q
  · split at q <;> try cases q
    rename_i z i hz
    obtain ⟨c, h1, h2⟩ := bnd q
    subst h2
    simp only [RepT] at rd re
    exact .inr (.inr ⟨z, i, c, rd, re, SZ_le hz, h1, PR.val0 sm k (by simp [Rep])⟩)
  · rename_i xs i
    obtain ⟨c, h1, h2⟩ := bnd q
    subst h2
    obtain ⟨a, vs, rfl, h3, h4⟩ := rd
    simp only [RepT] at re
    obtain ⟨w, h5, h6⟩ := atI_reps h4 h1
    exact .inr (.inl ⟨a, vs, i, w, rfl, re, SqT.up sm h3, h5, PR.val0 sm k h6⟩)
  · rename_i xs i
    obtain ⟨c, h1, h2⟩ := bnd q
    subst h2
    obtain ⟨a, vs, rfl, h3, h4⟩ := rd
    simp only [RepT] at re
    obtain ⟨w, h5, h6⟩ := atI_reps h4 h1
    exact .inl ⟨a, vs, i, w, rfl, re, SqL.of h3, h5, PR.val0 sm k h6⟩
theorem ok_max : Ok2 K (fun x y H Q => ∃ i j, [x, y] = [V.int i, V.int j] ∧ Q (.int (if j > i then j else i)) H) pMax := by
  intro M H d e v u res Q sm rd re q k
  cases d <;> cases e <;> simp only [pMax] at q <;> try cases q
  simp only [RepT] at rd re
  subst rd; subst re
  exact ⟨_, _, rfl, PR.val0 sm k (by simp [Rep])⟩
theorem ok_min : Ok2 K (fun x y H Q => ∃ i j, [x, y] = [V.int i, V.int j] ∧ Q (.int (if j < i then j else i)) H) pMin := by
  intro M H d e v u res Q sm rd re q k
  cases d <;> cases e <;> simp only [pMin] at q <;> try cases q
  simp only [RepT] at rd re
  subst rd; subst re
  exact ⟨_, _, rfl, PR.val0 sm k (by simp [Rep])⟩
theorem intsD_ok {M : Hp} : ∀ {ds : List D} {vs : List V} {ns : List Int}, Reps K M ds vs → intsD ds = some ns → vs = ns.map V.int
  | [], vs, ns, h, e => by
    simp only [Reps] at h; subst h
    simp only [intsD, Option.some.injEq] at e; subst e; rfl
  | d :: ds, vs, ns, h, e => by
    simp only [Reps] at h
    obtain ⟨v, vs', rfl, h1, h2⟩ := h
    cases d <;> simp only [intsD] at e <;> try cases e
    rename_i i
    cases q : intsD ds with
    | none => rw [q] at e; cases e
    | some ms =>
      rw [q] at e
      cases e
      simp only [Rep] at h1
      rw [h1, intsD_ok h2 q]
      rfl
theorem strsD_ok {M : Hp} : ∀ {ds : List D} {vs : List V} {ns : List Str}, Reps K M ds vs → strsD ds = some ns → vs = ns.map V.str
  | [], vs, ns, h, e => by
    simp only [Reps] at h; subst h
    simp only [strsD, Option.some.injEq] at e; subst e; rfl
  | d :: ds, vs, ns, h, e => by
    simp only [Reps] at h
    obtain ⟨v, vs', rfl, h1, h2⟩ := h
    cases d <;> simp only [strsD] at e <;> try cases e
    rename_i i
    cases q : strsD ds with
    | none => rw [q] at e; cases e
    | some ms =>
      rw [q] at e
      cases e
      simp only [Rep] at h1
      rw [h1, strsD_ok h2 q]
      rfl
theorem blsD_ok {M : Hp} : ∀ {ds : List D} {vs : List V} {ns : List Bool}, Reps K M ds vs → blsD ds = some ns → vs = ns.map V.bl
  | [], vs, ns, h, e => by
    simp only [Reps] at h; subst h
    simp only [blsD, Option.some.injEq] at e; subst e; rfl
  | d :: ds, vs, ns, h, e => by
    simp only [Reps] at h
    obtain ⟨v, vs', rfl, h1, h2⟩ := h
    cases d <;> simp only [blsD] at e <;> try cases e
    rename_i i
    cases q : blsD ds with
    | none => rw [q] at e; cases e
    | some ms =>
      rw [q] at e
      cases e
      simp only [Rep] at h1
      rw [h1, blsD_ok h2 q]
      rfl
/-! one operand -/
theorem ok_neg : Ok1 K (rU fun i => .int (-i)) (p1 .neg) := by
  intro M H d v res Q sm rd q k
  cases d <;> simp only [p1] at q <;> try cases q
  simp only [RepT] at rd
  exact ⟨_, rd, PR.val0 sm k (by simp [Rep])⟩
theorem ok_len : Ok1 K (fun v H Q => ∃ x n, [v] = [x] ∧ LenV K x H n ∧ Q (.int n) H) (p1 .len) := by
  intro M H d v res Q sm rd q k
  cases d <;> simp only [p1, pLen] at q <;> try cases q
  · split at q <;> try cases q
    rename_i z hz
    simp only [RepT] at rd
    subst rd
    exact ⟨_, z.length, rfl, ⟨SZ_le hz, rfl⟩, PR.val0 sm k (by simp [Rep])⟩
  · rename_i xs
    obtain ⟨a, vs, rfl, h1, h2⟩ := rd
    exact ⟨_, vs.length, rfl, .inr ⟨vs, SqT.up sm h1, rfl⟩, PR.val0 sm k (by simp [Rep, h2.length])⟩
  · rename_i xs
    obtain ⟨a, vs, rfl, h1, h2⟩ := rd
    exact ⟨_, vs.length, rfl, .inl ⟨vs, SqL.of h1, rfl⟩, PR.val0 sm k (by simp [Rep, h2.length])⟩
  · rename_i ns
    obtain ⟨a, rfl, h1⟩ := rd
    exact ⟨_, ns.length, rfl, .inl ⟨_, sm.seq h1, by simp⟩, PR.val0 sm k (by simp [Rep])⟩
theorem ok_abs : Ok1 K (fun v H Q => ∃ i, [v] = [V.int i] ∧ Q (.int (if i < 0 then -i else i)) H) (p1 .abs) := by
  intro M H d v res Q sm rd q k
  cases d <;> simp only [p1] at q <;> try cases q
  simp only [RepT] at rd
  subst rd
  exact ⟨_, rfl, PR.val0 sm k (by simp [Rep])⟩
theorem ok_int : Ok1 K (fun v H Q => (∃ i, [v] = [V.int i] ∧ Q (.int i) H) ∨ ∃ k, [v] = [V.bl k] ∧ Q (.int (if k then 1 else 0)) H) (p1 .int) := by
  intro M H d v res Q sm rd q k
  cases d <;> simp only [p1] at q <;> try cases q
  · simp only [RepT] at rd
    subst rd
    exact .inr ⟨_, rfl, PR.val0 sm k (by simp [Rep])⟩
  · simp only [RepT] at rd
    subst rd
    exact .inl ⟨_, rfl, PR.val0 sm k (by simp [Rep])⟩
theorem ok_tupl : Ok1 K (fun v H Q => ∃ p ys, [v] = [V.ref p] ∧ ((SqL K H p ys ∧ ∀ l, H l = none → Q (.ref l) (upd H l (.tup ys))) ∨ (SqT K H p ys ∧ Q (.ref p) H))) (p1 .tupl) := by
  intro M H d v res Q sm rd q k
  cases d <;> simp only [p1, pTupl] at q <;> try cases q
  · obtain ⟨a, vs, rfl, h1, h2⟩ := rd
    exact ⟨a, vs, rfl, .inr ⟨SqT.up sm h1, PR.val0 sm k (by simp only [Rep]; exact ⟨a, vs, rfl, h1, h2⟩)⟩⟩
  · obtain ⟨a, vs, rfl, h1, h2⟩ := rd
    exact ⟨a, vs, rfl, .inl ⟨SqL.of h1, fun l nl => PR.tup sm k h2 nl⟩⟩
theorem ok_list : Ok1 K (fun v H Q => ∃ p ys, [v] = [V.ref p] ∧ (SqL K H p ys ∨ SqT K H p ys) ∧ ∀ l, H l = none → Q (.ref l) (upd H l (.lst ys))) (p1 .list) := by
  intro M H d v res Q sm rd q k
  cases d <;> simp only [p1, pList] at q <;> try cases q
  · obtain ⟨a, vs, rfl, h1, h2⟩ := rd
    exact ⟨a, vs, rfl, .inr (SqT.up sm h1), fun l nl => PR.lst sm k h2 nl⟩
  · obtain ⟨a, vs, rfl, h1, h2⟩ := rd
    exact ⟨a, vs, rfl, .inl (SqL.of h1), fun l nl => PR.lst sm k h2 nl⟩
  · obtain ⟨a, rfl, h1⟩ := rd
    exact ⟨a, _, rfl, .inl (sm.seq h1), fun l nl => PR.lst sm k Reps.of_ints nl⟩
theorem ok_truth : Ok1 K (fun v H Q => ∃ k, TruV K v H k ∧ Q (.bl k) H) (p1 .truth) := by
  intro M H d v res Q sm rd q k
  cases d <;> simp only [p1] at q <;> try cases q
  · simp only [RepT] at rd; subst rd
    exact ⟨false, rfl, PR.val0 sm k (by simp [Rep])⟩
  · simp only [RepT] at rd; subst rd
    exact ⟨_, rfl, PR.val0 sm k (by simp [Rep])⟩
  · simp only [RepT] at rd; subst rd
    exact ⟨_, rfl, PR.val0 sm k (by simp [Rep])⟩
  · split at q <;> try cases q
    rename_i z hz
    simp only [RepT] at rd; subst rd
    exact ⟨_, ⟨SZ_le hz, rfl⟩, PR.val0 sm k (by simp [Rep])⟩
  · obtain ⟨a, vs, rfl, h1, h2⟩ := rd
    refine ⟨_, .inr (.inl ⟨vs, SqT.up sm h1, rfl⟩), PR.val0 sm k ?_⟩
    simp [Rep, h2.isEmpty]
  · obtain ⟨a, vs, rfl, h1, h2⟩ := rd
    refine ⟨_, .inl ⟨vs, SqL.of h1, rfl⟩, PR.val0 sm k ?_⟩
    simp [Rep, h2.isEmpty]
theorem ok_isN : Ok1 K (fun v H Q => Q (.bl (decide (v = .non))) H) (p1 .isN) := by
  intro M H d v res Q sm rd q k
  cases d <;> simp only [p1] at q <;> cases q <;> first
    | (simp only [RepT] at rd; subst rd; exact PR.val0 sm k (by simp [Rep]))
    | (obtain ⟨a, vs, rfl, _⟩ := rd; exact PR.val0 sm k (by simp [Rep]))
    | (obtain ⟨a, rfl, _⟩ := rd; exact PR.val0 sm k (by simp [Rep]))
theorem ok_notN : Ok1 K (fun v H Q => Q (.bl (!decide (v = .non))) H) (p1 .notN) := by
  intro M H d v res Q sm rd q k
  cases d <;> simp only [p1] at q <;> cases q <;> first
    | (simp only [RepT] at rd; subst rd; exact PR.val0 sm k (by simp [Rep]))
    | (obtain ⟨a, vs, rfl, _⟩ := rd; exact PR.val0 sm k (by simp [Rep]))
    | (obtain ⟨a, rfl, _⟩ := rd; exact PR.val0 sm k (by simp [Rep]))
theorem ok_sum : Ok1 K (fun v H Q => rSum K [v] H Q) (p1 .sum) := by
  intro M H d v res Q sm rd q k
  cases d <;> simp only [p1] at q <;> try cases q
  obtain ⟨a, vs, rfl, h1, h2⟩ := rd
  obtain ⟨ns, h3, h4⟩ := bnd q
  subst h4
  have e := intsD_ok h2 h3
  subst e
  exact ⟨a, ns, rfl, SqL.of h1, PR.val0 sm k (by simp [Rep])⟩
theorem ok_any : Ok1 K (fun v H Q => rAny K [v] H Q) (p1 .any) := by
  intro M H d v res Q sm rd q k
  cases d <;> simp only [p1] at q <;> try cases q
  obtain ⟨a, vs, rfl, h1, h2⟩ := rd
  obtain ⟨ns, h3, h4⟩ := bnd q
  subst h4
  have e := blsD_ok h2 h3
  subst e
  exact ⟨a, ns, rfl, SqL.of h1, PR.val0 sm k (by simp [Rep])⟩
theorem ok_all : Ok1 K (fun v H Q => rAll K [v] H Q) (p1 .all) := by
  intro M H d v res Q sm rd q k
  cases d <;> simp only [p1] at q <;> try cases q
  obtain ⟨a, vs, rfl, h1, h2⟩ := rd
  obtain ⟨ns, h3, h4⟩ := bnd q
  subst h4
  have e := blsD_ok h2 h3
  subst e
  exact ⟨a, ns, rfl, SqL.of h1, PR.val0 sm k (by simp [Rep])⟩
def isiName : Nat → String
  | 0 => "tuple" | 1 => "bool" | 2 => "str" | _ => "int"
theorem ok_isi (t : Nat) (ht : t < 4) : Ok1 K (fun v H Q => rIsi K [v, .ty (isiName t)] H Q) (p1 (.isi t)) := by
  intro M H d v res Q sm rd q k
  have go : ∀ (ty : String) (b : Bool), TyX K H v (.type ty) → kitB ty (isiName t) = some b → res = .val (.bl b) → rIsi K [v, .ty (isiName t)] H Q := fun ty b h1 h2 h3 => by
    subst h3
    exact ⟨_, _, _, _, b, rfl, .ty _, h1, kit_ty h2, PR.val0 sm k (by simp [Rep])⟩
  have tt : ∀ {a vs}, SqT K M a vs → v = .ref a → TyX K H v (.type "tuple") := fun {a vs} h e => by
    subst e
    rcases h with (h | ⟨o, h⟩) | ⟨o, its, n, h1, h2, _⟩
    · exact .base (.tup (sm _ _ h))
    · exact .fTuple (sm _ _ h)
    · exact .kTuple h1 h2
  rcases t with _ | _ | _ | _ | t
  · cases d <;> simp only [p1, pIsi] at q <;> cases q <;> first
      | (simp only [RepT] at rd; subst rd; first
          | exact go "NoneType" _ (.base .non) (by decide +kernel) rfl | exact go "bool" _ (.base (.bl _)) (by decide +kernel) rfl | exact go "int" _ (.base (.int _)) (by decide +kernel) rfl | exact go "str" _ (.base (.str _)) (by decide +kernel) rfl)
      | (obtain ⟨a, vs, e, h1, _⟩ := rd; first
          | exact go "tuple" _ (tt h1 e) (by decide +kernel) rfl
          | (subst e; exact go "list" _ (.base (.lst h1)) (by decide +kernel) rfl))
  · cases d <;> simp only [p1, pIsi] at q <;> cases q <;> first
      | (simp only [RepT] at rd; subst rd; first
          | exact go "NoneType" _ (.base .non) (by decide +kernel) rfl | exact go "bool" _ (.base (.bl _)) (by decide +kernel) rfl | exact go "int" _ (.base (.int _)) (by decide +kernel) rfl | exact go "str" _ (.base (.str _)) (by decide +kernel) rfl)
      | (obtain ⟨a, vs, e, h1, _⟩ := rd; first
          | exact go "tuple" _ (tt h1 e) (by decide +kernel) rfl
          | (subst e; exact go "list" _ (.base (.lst h1)) (by decide +kernel) rfl))
  · cases d <;> simp only [p1, pIsi] at q <;> cases q <;> first
      | (simp only [RepT] at rd; subst rd; first
          | exact go "NoneType" _ (.base .non) (by decide +kernel) rfl | exact go "bool" _ (.base (.bl _)) (by decide +kernel) rfl | exact go "int" _ (.base (.int _)) (by decide +kernel) rfl | exact go "str" _ (.base (.str _)) (by decide +kernel) rfl)
      | (obtain ⟨a, vs, e, h1, _⟩ := rd; first
          | exact go "tuple" _ (tt h1 e) (by decide +kernel) rfl
          | (subst e; exact go "list" _ (.base (.lst h1)) (by decide +kernel) rfl))
  · cases d <;> simp only [p1, pIsi] at q <;> cases q <;> first
      | (simp only [RepT] at rd; subst rd; first
          | exact go "NoneType" _ (.base .non) (by decide +kernel) rfl | exact go "bool" _ (.base (.bl _)) (by decide +kernel) rfl | exact go "int" _ (.base (.int _)) (by decide +kernel) rfl | exact go "str" _ (.base (.str _)) (by decide +kernel) rfl)
      | (obtain ⟨a, vs, e, h1, _⟩ := rd; first
          | exact go "tuple" _ (tt h1 e) (by decide +kernel) rfl
          | (subst e; exact go "list" _ (.base (.lst h1)) (by decide +kernel) rfl))
  · omega
end
end G
namespace G
open PySem PySem.Spec PyProof.Rows L2
section
variable {C : Cfg} {W : WX} {M H M1 H1 : Hp} {σ : L2.St} {nv nv1 : Nv} {Φ : Fn} {shs : Nat → Nat → Shape}
/-! ### argument lists -/
def OpdsR (K : PySem.W.Frag) (M : Hp) (σ : L2.St) : List (D ⊕ Nat) → List V → Prop
  | [], vs => vs = []
  | o :: os, vs => ∃ v vs', vs = v :: vs' ∧ OpdR K M σ o v ∧ OpdsR K M σ os vs'
theorem OpdsR.mono {K : PySem.W.Frag} {M M' : Hp} (e : Same M M') : ∀ {os : List (D ⊕ Nat)} {vs : List V}, OpdsR K M σ os vs → OpdsR K M' σ os vs
  | [], _, h => h
  | o :: os, _, h => by
    obtain ⟨v, vs', e1, e2, e3⟩ := h
    exact ⟨v, vs', e1, e2.mono e, OpdsR.mono e e3⟩
theorem OpdsR.length {K : PySem.W.Frag} {M : Hp} : ∀ {os : List (D ⊕ Nat)} {vs : List V}, OpdsR K M σ os vs → os.length = vs.length
  | [], _, h => by have h : _ = [] := h; subst h; rfl
  | o :: os, _, h => by
    obtain ⟨v, vs', rfl, e2, e3⟩ := h
    simp [OpdsR.length e3]
theorem OpdsR.inls {K : PySem.W.Frag} {M : Hp} : ∀ {os : List (D ⊕ Nat)} {vs : List V} {ds : List D}, OpdsR K M σ os vs → inls os = some ds → Reps K M ds vs
  | [], vs, ds, h, e => by
    have h : _ = [] := h; subst h
    simp only [G.inls, Option.some.injEq] at e; subst e; simp [Reps]
  | o :: os, vs, ds, h, e => by
    obtain ⟨v, vs', rfl, e2, e3⟩ := h
    cases o with
    | inl d =>
      simp only [G.inls] at e
      cases q : G.inls os with
      | none => rw [q] at e; cases e
      | some ds' =>
        rw [q] at e
        cases e
        simp only [Reps]
        exact ⟨v, vs', rfl, e2, OpdsR.inls e3 q⟩
    | inr i => cases e
def SndA (C : Cfg) (W : WX) (xs : List Expr) (f : Nv → Rs (List (D ⊕ Nat))) : Prop := ∀ M H σ nv Q, StR C.K M H σ nv → DoneX C W M H σ nv (f nv) (fun os nv' M' H' => ∀ vs, OpdsR C.K M' σ os vs → Q vs H') → tA C W xs σ H Q
def noStar : Expr → Bool
  | .Starred _ _ => false
  | _ => true
theorem star_cons {x : Expr} (h : noStar x = true) (xs : List Expr) (env : Env) : starEach (x :: xs) env = (false, eval x env) :: starEach xs env := by
  cases x <;> first | rfl | (cases h)
def noStars (xs : List Expr) : Bool := xs.all noStar
theorem noStars_cons {x : Expr} {xs : List Expr} (h : noStars (x :: xs) = true) : noStar x = true ∧ noStars xs = true := by
  simpa [noStars] using h
theorem plain_back : ∀ {xs : List Expr} {env : Env} {pos : Pos}, noStars xs = true → (backTo pos (starEach xs env)).any (·.1) = false
  | [], _, _, _ => rfl
  | x :: xs, env, pos, h => by
    obtain ⟨h1, h2⟩ := noStars_cons h
    have ih := plain_back (xs := xs) (env := env) (pos := pos) h2
    rw [star_cons h1]
    unfold backTo at ih ⊢
    simp only [List.map_cons, List.any_cons, Bool.false_or]
    exact ih
theorem few_back {xs : List Expr} {env : Env} {pos : Pos} (h : noStars xs = true) : (backTo pos (starEach xs env)).all (fun x => !x.1) = true := by
  have := plain_back (env := env) (pos := pos) h
  rw [List.any_eq_false] at this
  rw [List.all_eq_true]
  intro x hx
  have := this x hx
  simpa using this
theorem sndA_nil : SndA C W [] (evOs Φ shs []) := by
  intro M H σ nv Q st hd
  refine tA.by (fun X hX => pa_nil) ?_
  have hd' : ∀ M' H', Step M H (Own σ nv) M' H' (Own σ nv) → StR C.K M' H' σ nv → ∀ vs, OpdsR C.K M' σ [] vs → Q vs H' := hd
  exact hd' M H (Step.refl _ _ _) st [] rfl
theorem sndA_cons {x : Expr} {xs : List Expr} {e : E} {es : List E} (ns : noStar x = true) (he : (∃ i, e = .brw i ∧ ∃ y pos, x = .Name y pos ∧ okName C.N C.sc i y = true) ∨ ((∀ i, e ≠ .brw i) ∧ SndE C W x (evE Φ shs e)))
    (hs : SndA C W xs (evOs Φ shs es)) : SndA C W (x :: xs) (evOs Φ shs (e :: es)) := by
  intro M H σ nv Q st hd
  refine tA.by (fun X hX => pa_cons (PEo hX x) (PAo hX xs) (star_cons ns _ _)) ?_
  rw [evOs] at hd
  rcases he with ⟨i, rfl, y, pos, rfl, ok⟩ | ⟨ne, he⟩
  · simp only [argStep] at hd
    split at hd
    · rename_i s q
      obtain ⟨v, e1, _⟩ := st.get i _ q
      refine tE.by (pe_name ok) ⟨v, e1, ?_⟩
      refine hs M H σ nv _ st ?_
      cases e3 : evOs Φ shs es nv with
      | ok os nv2 =>
        rw [e3] at hd
        intro M2 H2 s2 st2 vs hv
        exact hd M2 H2 s2 st2 (v :: vs) ⟨v, vs, rfl, e1, hv⟩
      | exc c as nv2 => rw [e3] at hd; exact hd
      | stuck => rw [e3] at hd; exact hd
    · exact hd.elim
  · have e1 : argStep e nv (evE Φ shs e nv) (evOs Φ shs es) = (evE Φ shs e nv).bind fun r nv1 => (evOs Φ shs es nv1).bind fun os nv2 => .ok (.inl r.frz :: os) nv2 := by
      cases e <;> first | rfl | exact absurd rfl (ne _)
    rw [e1] at hd
    refine SndE.then he st hd fun r nv1 v M1 H1 e2 st1 rp s1 hd1 => ?_
    refine hs M1 H1 σ nv1 _ st1 ?_
    cases e3 : evOs Φ shs es nv1 with
    | ok os nv2 =>
      rw [e3] at hd1
      intro M2 H2 s2 st2 vs hv
      exact hd1 M2 H2 s2 st2 (v :: vs) ⟨v, vs, rfl, Rep.mono s2.mm rp, hv⟩
    | exc c as nv2 => rw [e3] at hd1; exact hd1
    | stuck => rw [e3] at hd1; exact hd1
end
end G
namespace G
open PySem PySem.Spec PyProof.Rows L2
section
variable {C : Cfg} {W : WX} {M H M1 H1 : Hp} {σ : L2.St} {nv nv1 : Nv} {Φ : Fn} {shs : Nat → Nat → Shape}
/-! ### leaves -/
theorem snd_const {x : Expr} {v : V} {d : D} (pe : ∀ X, AtE C W X → PE X x (tC v)) (rp : ∀ M, Rep C.K M d v) : SndE C W x (fun nv => .ok (.val d) nv) := by
  intro M H σ nv Q st hd
  refine tE.by pe ?_
  exact hd v M H ((Step.refl _ _ _).less fun a h => h.elim id False.elim) st (rp M)
theorem snd_non {i pos} : SndE C W (.Constant .none i pos) (evE Φ shs .non) := by
  have : evE Φ shs .non = fun nv => .ok (.val .non) nv := by funext nv; rw [evE]
  rw [this]
  exact snd_const (fun X hX => pe_non) fun M => by simp [Rep]
theorem snd_bl {b i pos} : SndE C W (.Constant (.bool b) i pos) (evE Φ shs (.bl b)) := by
  have : evE Φ shs (.bl b) = fun nv => .ok (.val (.bl b)) nv := by funext nv; rw [evE]
  rw [this]
  exact snd_const (fun X hX => pe_bl) fun M => by simp [Rep]
theorem snd_int {n i pos} : SndE C W (.Constant (.int n) i pos) (evE Φ shs (.int n)) := by
  have : evE Φ shs (.int n) = fun nv => .ok (.val (.int n)) nv := by funext nv; rw [evE]
  rw [this]
  exact snd_const (fun X hX => pe_int) fun M => by simp [Rep]
theorem snd_str {s i pos} : SndE C W (.Constant (.str s) i pos) (evE Φ shs (.str s)) := by
  have : evE Φ shs (.str s) = fun nv => .ok (.val (.str s)) nv := by funext nv; rw [evE]
  rw [this]
  exact snd_const (fun X hX => pe_str) fun M => by simp [Rep]
theorem own_set {nv : Nv} {i : Nat} {s : Option Sl} (hs : ∀ f ds, s ≠ some (.lv f ds)) {a : Addr} (h : Own σ (nv.set i s) a) : Own σ nv a ∧ ∃ j, j ≠ i ∧ ∃ f ds, nv[j]? = some (some (.lv f ds)) ∧ σ[j]? = some (some (.ref a)) := by
  obtain ⟨j, f, ds, h1, h2⟩ := h
  by_cases e : i = j
  · subst e
    rw [List.getElem?_set] at h1
    split at h1
    · split at h1
      · cases h1; exact absurd rfl (hs _ _)
      · cases h1
    · contradiction
  · rw [List.getElem?_set_ne e] at h1
    exact ⟨⟨j, f, ds, h1, h2⟩, j, Ne.symm e, f, ds, h1, h2⟩
/-- an own list is known from now on -/
theorem StR.give (st : StR C.K M H σ nv) {i : Nat} {f : Bool} {ds : List D} (q : nv[i]? = some (some (.lv f ds))) {s : Option Sl} (hs : s = none ∨ s = some (.val (.lst ds))) :
    ∃ a vs, σ[i]? = some (some (.ref a)) ∧ H a = some (.lst vs) ∧ M a = none ∧ Reps C.K M ds vs ∧ StR C.K (upd M a (.lst vs)) H σ (nv.set i s) ∧ ¬ Own σ (nv.set i s) a ∧ Step M H (Own σ nv) (upd M a (.lst vs)) H (Own σ (nv.set i s)) := by
  obtain ⟨v, e1, a, vs, rfl, e2, e3, e4⟩ := st.get i _ q
  have hs' : ∀ f ds, s ≠ some (.lv f ds) := fun f ds z => by rcases hs with h | h <;> rw [h] at z <;> cases z
  have sm : Same M (upd M a (.lst vs)) := same_upd e2
  have no : ¬ Own σ (nv.set i s) a := fun z => by
    obtain ⟨_, j, hj, g, ys, h1, h2⟩ := own_set hs' z
    exact hj (st.apart j i g f ys ds _ h1 q h2 e1)
  refine ⟨a, vs, e1, e3, e2, e4, ⟨fun b o h => ?_, by simp [st.len], fun j t h => ?_, fun j k g g' xs ys v h1 h2 h3 h4 => ?_⟩, no, sm, fun b o h _ => h, fun b h => .inl (own_set hs' h).1, fun b h => h, fun b o h => ?_⟩
  · by_cases hb : b = a
    · subst hb; rw [upd_same] at h; cases h; exact e3
    · rw [upd_ne hb] at h; exact st.ext _ _ h
  · rw [List.getElem?_set] at h
    split at h
    · rename_i e
      subst e
      split at h
      · rcases hs with e | e
        · rw [e] at h; cases h
        · rw [e] at h
          cases h
          refine ⟨_, e1, ?_⟩
          simp only [SlR, Rep]
          exact ⟨a, vs, rfl, upd_same, Reps.mono sm e4⟩
      · cases h
    · rename_i hij
      obtain ⟨v, h1, h2⟩ := st.get j t h
      refine ⟨v, h1, ?_⟩
      cases t with
      | val d => exact Rep.mono sm h2
      | lv g ys =>
        obtain ⟨b, ws, rfl, h3, h4, h5⟩ := h2
        have : b ≠ a := fun z => hij (st.apart i j f g ds ys _ q h e1 (z ▸ h1))
        exact ⟨b, ws, rfl, by rw [upd_ne this]; exact h3, h4, Reps.mono sm h5⟩
  · have k1 : ∀ j : Nat, (nv.set i s)[j]? = some (some (.lv g xs)) → nv[j]? = some (some (.lv g xs)) := fun j h => by
      by_cases e : i = j
      · subst e
        rw [List.getElem?_set] at h
        split at h
        · split at h
          · cases h; exact absurd rfl (hs' _ _)
          · cases h
        · contradiction
      · rwa [List.getElem?_set_ne e] at h
    have k2 : ∀ j : Nat, (nv.set i s)[j]? = some (some (.lv g' ys)) → nv[j]? = some (some (.lv g' ys)) := fun j h => by
      by_cases e : i = j
      · subst e
        rw [List.getElem?_set] at h
        split at h
        · split at h
          · cases h; exact absurd rfl (hs' _ _)
          · cases h
        · contradiction
      · rwa [List.getElem?_set_ne e] at h
    exact st.apart j k g g' xs ys v (k1 j h1) (k2 k h2) h3 h4
  · by_cases hb : b = a
    · subst hb; exact .inr (.inl ⟨i, f, ds, q, e1⟩)
    · rw [upd_ne hb] at h; exact .inl h
theorem snd_var {i : Nat} {x : Str} {pos : Pos} (h : okName C.N C.sc i x = true) : SndE C W (.Name x pos) (evE Φ shs (.var i)) := by
  intro M H σ nv Q st hd
  refine tE.by (pe_name h) ?_
  rw [evE] at hd
  unfold rdVar at hd
  split at hd
  · rename_i d q
    obtain ⟨v, e1, e2⟩ := st.get i _ q
    exact ⟨v, e1, hd v M H ((Step.refl _ _ _).less fun a h => h.elim id False.elim) st e2⟩
  · rename_i ds q
    obtain ⟨a, vs, e1, e2, e3, e4, st', no, s'⟩ := st.give q (s := some (.val (.lst ds))) (.inr rfl)
    refine ⟨_, e1, hd _ _ H (s'.less fun a h => h.elim id False.elim) st' ?_⟩
    simp only [RR, Rep]
    exact ⟨a, vs, rfl, upd_same, Reps.mono (same_upd e3) e4⟩
  · exact hd.elim
/-- a slot is emptied: its list is free -/
theorem StR.drop (st : StR C.K M H σ nv) (i : Nat) : StR C.K M H σ (nv.set i none) := by
  have k : ∀ j t, (nv.set i none)[j]? = some (some t) → nv[j]? = some (some t) ∧ j ≠ i := fun j t h => by
    by_cases e : i = j
    · subst e
      rw [List.getElem?_set] at h
      split at h
      · split at h
        · cases h
        · cases h
      · contradiction
    · rw [List.getElem?_set_ne e] at h
      exact ⟨h, Ne.symm e⟩
  exact ⟨st.ext, by simp [st.len], fun j t h => st.get j t (k j t h).1, fun j l g g' xs ys v h1 h2 h3 h4 => st.apart j l g g' xs ys v (k _ _ h1).1 (k _ _ h2).1 h3 h4⟩
theorem snd_mov {i : Nat} {x : Str} {pos : Pos} (h : okName C.N C.sc i x = true) : SndE C W (.Name x pos) (evE Φ shs (.mov i)) := by
  intro M H σ nv Q st hd
  refine tE.by (pe_name h) ?_
  rw [evE] at hd
  unfold mvVar at hd
  split at hd
  · rename_i d q
    obtain ⟨v, e1, e2⟩ := st.get i _ q
    exact ⟨v, e1, hd v M H ((Step.refl _ _ _).less fun a h => h.elim id False.elim) st e2⟩
  · rename_i ds q
    obtain ⟨a, vs, e1, e2, e3, e4, _, no, _⟩ := st.give q (s := none) (.inl rfl)
    refine ⟨_, e1, hd _ M H ⟨Same.refl _, fun _ _ h _ => h, fun b hb => ?_, fun _ h => h, fun _ _ h => .inl h⟩ (st.drop i) ⟨a, vs, rfl, e2, e3, no, e4⟩⟩
    rcases hb with z | z
    · exact .inl (own_set (fun _ _ z => by cases z) z).1
    · have z' : V.ref a = V.ref b := z
      injection z' with z'
      subst z'
      exact .inl ⟨i, true, ds, q, e1⟩
  · exact hd.elim
/-! ### displays -/
theorem snd_tup {xs : List Expr} {es : List E} {k : Nat} {pos : Pos} (h : SndA C W xs (evOs Φ shs es)) : SndE C W (.Tuple xs k pos) (evE Φ shs (.tup es)) := by
  intro M H σ nv Q st hd
  refine tE.by (fun X hX => pe_tup (PAo hX xs)) ?_
  rw [evE] at hd
  refine h M H σ nv _ st ?_
  cases e3 : evOs Φ shs es nv with
  | ok os nv2 =>
    rw [e3] at hd
    intro M2 H2 s2 st2 vs hv
    have hd := DoneE.later hd s2
    cases q : inls os with
    | none => simp only [Rs.bind, q] at hd; exact hd.elim
    | some ds =>
      simp only [Rs.bind, q, Option.bind] at hd
      by_cases hz : ds.length ≤ SZ
      · rw [if_pos hz] at hd
        have rp := OpdsR.inls hv q
        refine ⟨by rw [← rp.length]; exact SZ_le hz, fun p np => ?_⟩
        exact PR.tup st2.ext (fun v' M' H' p' h' => prim_done hd st2 p' h') rp np
      · rw [if_neg hz] at hd; exact hd.elim
  | exc c as nv2 => rw [e3] at hd; exact hd
  | stuck => rw [e3] at hd; exact hd
theorem snd_lst {xs : List Expr} {es : List E} {pos : Pos} (h : SndA C W xs (evOs Φ shs es)) : SndE C W (.List xs pos) (evE Φ shs (.lst es)) := by
  intro M H σ nv Q st hd
  refine tE.by (fun X hX => pe_lst (PAo hX xs)) ?_
  rw [evE] at hd
  refine h M H σ nv _ st ?_
  cases e3 : evOs Φ shs es nv with
  | ok os nv2 =>
    rw [e3] at hd
    intro M2 H2 s2 st2 vs hv
    have hd := DoneE.later hd s2
    cases q : inls os with
    | none => simp only [Rs.bind, q] at hd; exact hd.elim
    | some ds =>
      simp only [Rs.bind, q, Option.bind] at hd
      by_cases hz : ds.length ≤ SZ
      · rw [if_pos hz] at hd
        have rp := OpdsR.inls hv q
        refine ⟨by rw [← rp.length]; exact SZ_le hz, fun p np => ?_⟩
        exact PR.lst st2.ext (fun v' M' H' p' h' => prim_done hd st2 p' h') rp np
      · rw [if_neg hz] at hd; exact hd.elim
  | exc c as nv2 => rw [e3] at hd; exact hd
  | stuck => rw [e3] at hd; exact hd
/-! ### and, or, not, if else -/
theorem bl_of {r : R} {v : V} {b : Bool} (e : r = .val (.bl b)) (h : Rep C.K M r.frz v) : v = .bl b := by
  subst e
  simpa [R.frz, Rep] using h
theorem snd_and {x y : Expr} {a b : E} {whole : Expr} (ha : SndE C W x (evE Φ shs a)) (hb : SndE C W y (evE Φ shs b))
    (pe : ∀ X, AtE C W X → PE X whole (tAndV (tE C W x) (tE C W y))) : SndE C W whole (evE Φ shs (.and_ a b)) := by
  intro M H σ nv Q st hd
  refine tE.by pe ?_
  rw [evE] at hd
  refine SndE.thenE ha st hd fun r nv1 v M1 H1 e1 st1 rp s1 hd1 => ?_
  split at hd1
  · exact ⟨true, bl_of rfl rp, by rw [if_pos rfl]; exact hb M1 H1 σ nv1 Q st1 hd1⟩
  · exact ⟨false, bl_of rfl rp, by rw [if_neg (by decide)]; exact hd1 _ M1 H1 ((Step.refl _ _ _).less fun a h => h.elim id False.elim) st1 (by simp [RR, Rep])⟩
  · exact hd1.elim
theorem snd_or {x y : Expr} {a b : E} {whole : Expr} (ha : SndE C W x (evE Φ shs a)) (hb : SndE C W y (evE Φ shs b))
    (pe : ∀ X, AtE C W X → PE X whole (tOrV (tE C W x) (tE C W y))) : SndE C W whole (evE Φ shs (.or_ a b)) := by
  intro M H σ nv Q st hd
  refine tE.by pe ?_
  rw [evE] at hd
  refine SndE.thenE ha st hd fun r nv1 v M1 H1 e1 st1 rp s1 hd1 => ?_
  split at hd1
  · exact ⟨true, bl_of rfl rp, by rw [if_pos rfl]; exact hd1 _ M1 H1 ((Step.refl _ _ _).less fun a h => h.elim id False.elim) st1 (by simp [RR, Rep])⟩
  · exact ⟨false, bl_of rfl rp, by rw [if_neg (by decide)]; exact hb M1 H1 σ nv1 Q st1 hd1⟩
  · exact hd1.elim
theorem snd_not {x : Expr} {a : E} {pos : Pos} (ha : SndE C W x (evE Φ shs a)) : SndE C W (.UnaryOp .Not x pos) (evE Φ shs (.not_ a)) := by
  intro M H σ nv Q st hd
  refine tE.by (fun X hX => pe_not (PEo hX x)) ?_
  rw [evE] at hd
  refine SndE.thenE ha st hd fun r nv1 v M1 H1 e1 st1 rp s1 hd1 => ?_
  split at hd1
  · rename_i k
    exact ⟨k, bl_of rfl rp, hd1 _ M1 H1 ((Step.refl _ _ _).less fun a h => h.elim id False.elim) st1 (by simp [RR, Rep])⟩
  · exact hd1.elim
/-! ### tests -/
def tst (f : Nv → Rs R) (nv : Nv) : Rs Bool := (f nv).bind fun r nv1 => match r with
  | .val (.bl b) => .ok b nv1
  | _ => .stuck
def SndT (C : Cfg) (W : WX) (x : Expr) (f : Nv → Rs R) : Prop := ∀ M H σ nv (Q : Bool → Hp → Prop), StR C.K M H σ nv → DoneX C W M H σ nv (tst f nv) (fun b nv' M' H' => Q b H') → tT C W x σ H Q
theorem SndT.then {x : Expr} {f : Nv → Rs R} {α : Type} {g : R → Nv → Rs α} {g' : Bool → Nv → Rs α} {post : α → Nv → Hp → Hp → Prop} {Q : Bool → Hp → Prop} (h : SndT C W x f) (st : StR C.K M H σ nv) (hd : DoneX C W M H σ nv ((f nv).bind g) post)
    (hg : ∀ r nv, g r nv = match r with | .val (.bl b) => g' b nv | _ => .stuck)
    (k : ∀ b nv1 M1 H1, StR C.K M1 H1 σ nv1 → Step M H (Own σ nv) M1 H1 (Own σ nv1) → DoneX C W M1 H1 σ nv1 (g' b nv1) post → Q b H1) : tT C W x σ H Q := by
  refine h M H σ nv Q st ?_
  unfold tst
  cases e : f nv with
  | ok r nv1 =>
    rw [e] at hd
    simp only [Rs.bind] at hd ⊢
    rw [hg] at hd
    split at hd
    · rename_i b
      intro M' H' s st'
      exact k b nv1 M' H' st' s (DoneX.later hd s)
    · exact hd.elim
  | exc c as nv1 => rw [e] at hd; exact hd
  | stuck => rw [e] at hd; exact hd.elim
theorem SndT.thenE {x : Expr} {f : Nv → Rs R} {g : R → Nv → Rs R} {g' : Bool → Nv → Rs R} {Q' : VK} {Q : Bool → Hp → Prop} (h : SndT C W x f) (st : StR C.K M H σ nv) (hd : DoneE C W M H σ nv ((f nv).bind g) Q')
    (hg : ∀ r nv, g r nv = match r with | .val (.bl b) => g' b nv | _ => .stuck)
    (k : ∀ b nv1 M1 H1, StR C.K M1 H1 σ nv1 → Step M H (Own σ nv) M1 H1 (Own σ nv1) → DoneE C W M1 H1 σ nv1 (g' b nv1) Q' → Q b H1) : tT C W x σ H Q := by
  refine h M H σ nv Q st ?_
  unfold tst
  cases e : f nv with
  | ok r nv1 =>
    rw [e] at hd
    simp only [Rs.bind] at hd ⊢
    rw [hg] at hd
    split at hd
    · rename_i b
      intro M' H' s st'
      exact k b nv1 M' H' st' s (DoneE.later hd s)
    · exact hd.elim
  | exc c as nv1 => rw [e] at hd; exact hd
  | stuck => rw [e] at hd; exact hd.elim
theorem snd_ife {c x y : Expr} {e a b : E} {pos : Pos} (hc : SndT C W c (evE Φ shs e)) (ha : SndE C W x (evE Φ shs a)) (hb : SndE C W y (evE Φ shs b)) : SndE C W (.IfExp c x y pos) (evE Φ shs (.ife e a b)) := by
  intro M H σ nv Q st hd
  refine tE.by (fun X hX => pe_ifExp (PTo hX c) (PEo hX x) (PEo hX y)) ?_
  rw [evE] at hd
  refine SndT.thenE (g' := fun b' nv1 => if b' = true then evE Φ shs a nv1 else evE Φ shs b nv1) hc st hd (fun r nv => ?_) fun k nv1 M1 H1 st1 s1 hd1 => ?_
  · split <;> first | rfl | (rename_i h1 h2; split <;> first | rfl | (rename_i k; cases k <;> first | exact absurd rfl h1 | exact absurd rfl h2))
  · cases k with
    | true => rw [if_pos rfl] at hd1 ⊢; exact ha M1 H1 σ nv1 Q st1 hd1
    | false => rw [if_neg (by decide)] at hd1 ⊢; exact hb M1 H1 σ nv1 Q st1 hd1
end
end G
namespace G
open PySem PySem.Spec PyProof.Rows L2
section
variable {C : Cfg} {W : WX} {M H M1 H1 : Hp} {σ : L2.St} {nv nv1 : Nv} {Φ : Fn} {shs : Nat → Nat → Shape}
def tW (C : Cfg) (W : WX) (x : Expr) : TT := fun σ H Q => ∀ X, AtE C W X → ∀ whole pins s, Inv X pins σ H s → wpAny (model X.prog X.w) X.A (isTrue x X.env whole) (TP X pins σ Q) X.xe s
theorem PWo {X : Cx} (h : AtE C W X) (x : Expr) : PW X x (tW C W x) := ⟨fun wh pins s σ H Q I t => t X h wh pins s I⟩
theorem tW.by {x : Expr} {t : TT} {σ : L2.St} {H : Hp} {Q : Bool → Hp → Prop} (pe : ∀ X, AtE C W X → PW X x t) (h : t σ H Q) : tW C W x σ H Q := fun X hX wh pins s I => (pe X hX).run wh pins s σ H Q I h
def SndW (C : Cfg) (W : WX) (x : Expr) (f : Nv → Rs R) : Prop := ∀ M H σ nv (Q : Bool → Hp → Prop), StR C.K M H σ nv → DoneX C W M H σ nv (tst f nv) (fun b nv' M' H' => Q b H') → tW C W x σ H Q
theorem SndW.t {x : Expr} {f : Nv → Rs R} (h : SndW C W x f) : SndT C W x f := fun M H σ nv Q st hd => tT.by (fun X hX => (PWo hX x).pt) (h M H σ nv Q st hd)
theorem tst_and {a b : E} (nv : Nv) : tst (evE Φ shs (.and_ a b)) nv = (evE Φ shs a nv).bind fun r nv1 => match r with | .val (.bl k) => (if k = true then tst (evE Φ shs b) nv1 else .ok false nv1) | _ => .stuck := by
  unfold tst
  rw [evE]
  cases evE Φ shs a nv with
  | ok r nv1 =>
    cases r with
    | val d =>
      cases d with
      | bl k => cases k <;> rfl
      | _ => rfl
    | own ds => rfl
  | exc c as nv1 => rfl
  | stuck => rfl
theorem tst_or {a b : E} (nv : Nv) : tst (evE Φ shs (.or_ a b)) nv = (evE Φ shs a nv).bind fun r nv1 => match r with | .val (.bl k) => (if k = true then .ok true nv1 else tst (evE Φ shs b) nv1) | _ => .stuck := by
  unfold tst
  rw [evE]
  cases evE Φ shs a nv with
  | ok r nv1 =>
    cases r with
    | val d =>
      cases d with
      | bl k => cases k <;> rfl
      | _ => rfl
    | own ds => rfl
  | exc c as nv1 => rfl
  | stuck => rfl
theorem tst_not {a : E} (nv : Nv) : tst (evE Φ shs (.not_ a)) nv = (evE Φ shs a nv).bind fun r nv1 => match r with | .val (.bl k) => .ok (!k) nv1 | _ => .stuck := by
  unfold tst
  rw [evE]
  cases evE Φ shs a nv with
  | ok r nv1 =>
    cases r with
    | val d =>
      cases d with
      | bl k => cases k <;> rfl
      | _ => rfl
    | own ds => rfl
  | exc c as nv1 => rfl
  | stuck => rfl
theorem sndW_and {x y : Expr} {xs : List Expr} {a b : E} {pos : Pos} (ha : SndT C W x (evE Φ shs a)) (hb : (xs = [] ∧ SndT C W y (evE Φ shs b)) ∨ SndW C W (.BoolOp .And (y :: xs) pos) (evE Φ shs b)) :
    SndW C W (.BoolOp .And (x :: y :: xs) pos) (evE Φ shs (.and_ a b)) := by
  have key : ∀ {tb : TT}, (∀ X, AtE C W X → PW X (.BoolOp .And (y :: xs) pos) tb) → (∀ M H σ nv (Q : Bool → Hp → Prop), StR C.K M H σ nv → DoneX C W M H σ nv (tst (evE Φ shs b) nv) (fun b nv' M' H' => Q b H') → tb σ H Q) → SndW C W (.BoolOp .And (x :: y :: xs) pos) (evE Φ shs (.and_ a b)) := by
    intro tb pe hb M H σ nv Q st hd
    refine tW.by (fun X hX => pw_and (PTo hX x) (pe X hX)) ?_
    rw [tst_and] at hd
    refine SndT.then (g' := fun k nv1 => if k = true then tst (evE Φ shs b) nv1 else .ok false nv1) ha st hd (fun r nv => rfl) fun k nv1 M1 H1 st1 s1 hd1 => ?_
    cases k with
    | true => rw [if_pos rfl] at hd1 ⊢; exact hb M1 H1 σ nv1 Q st1 hd1
    | false => rw [if_neg (by decide)] at hd1 ⊢; exact hd1 M1 H1 (Step.refl _ _ _) st1
  rcases hb with ⟨rfl, hb⟩ | hb
  · exact key (fun X hX => pw_and1 (PTo hX y)) hb
  · exact key (fun X hX => PWo hX _) hb
theorem sndW_or {x y : Expr} {xs : List Expr} {a b : E} {pos : Pos} (ha : SndT C W x (evE Φ shs a)) (hb : (xs = [] ∧ SndT C W y (evE Φ shs b)) ∨ SndW C W (.BoolOp .Or (y :: xs) pos) (evE Φ shs b)) :
    SndW C W (.BoolOp .Or (x :: y :: xs) pos) (evE Φ shs (.or_ a b)) := by
  have key : ∀ {tb : TT}, (∀ X, AtE C W X → PW X (.BoolOp .Or (y :: xs) pos) tb) → (∀ M H σ nv (Q : Bool → Hp → Prop), StR C.K M H σ nv → DoneX C W M H σ nv (tst (evE Φ shs b) nv) (fun b nv' M' H' => Q b H') → tb σ H Q) → SndW C W (.BoolOp .Or (x :: y :: xs) pos) (evE Φ shs (.or_ a b)) := by
    intro tb pe hb M H σ nv Q st hd
    refine tW.by (fun X hX => pw_or (PTo hX x) (pe X hX)) ?_
    rw [tst_or] at hd
    refine SndT.then (g' := fun k nv1 => if k = true then .ok true nv1 else tst (evE Φ shs b) nv1) ha st hd (fun r nv => rfl) fun k nv1 M1 H1 st1 s1 hd1 => ?_
    cases k with
    | true => rw [if_pos rfl] at hd1 ⊢; exact hd1 M1 H1 (Step.refl _ _ _) st1
    | false => rw [if_neg (by decide)] at hd1 ⊢; exact hb M1 H1 σ nv1 Q st1 hd1
  rcases hb with ⟨rfl, hb⟩ | hb
  · exact key (fun X hX => pw_or1 (PTo hX y)) hb
  · exact key (fun X hX => PWo hX _) hb
theorem sndT_not {x : Expr} {a : E} {pos : Pos} (ha : SndT C W x (evE Φ shs a)) : SndT C W (.UnaryOp .Not x pos) (evE Φ shs (.not_ a)) := by
  intro M H σ nv Q st hd
  refine tT.by (fun X hX => pt_not (PTo hX x)) ?_
  rw [tst_not] at hd
  refine SndT.then (g' := fun k nv1 => .ok (!k) nv1) ha st hd (fun r nv => rfl) fun k nv1 M1 H1 st1 s1 hd1 => hd1 M1 H1 (Step.refl _ _ _) st1
/-- a value that is True or False, as a test -/
def plainT : Expr → Bool
  | .UnaryOp .Not _ _ => false
  | .BoolOp _ _ _ => false
  | .IfExp _ _ _ _ => false
  | .Compare _ _ _ _ => false
  | _ => true
theorem isTrue_of {x : Expr} (h : plainT x = true) (env : PySem.Env) (whole : Sem Value) : isTrue x env whole = (do let v ← whole; standAt x.pos; holding [v] (truthy v)) := by
  cases x with
  | UnaryOp op y pos => cases op <;> first | rfl | (cases h)
  | BoolOp => cases h
  | IfExp => cases h
  | Compare => cases h
  | _ => rfl
theorem sndT_val {x : Expr} {f : Nv → Rs R} (hp : plainT x = true) (h : SndE C W x f) : SndT C W x f := by
  intro M H σ nv Q st hd
  refine tT.by (fun X hX => pt_val (PEo hX x) (isTrue_of hp _)) ?_
  refine SndE.then h st hd fun r nv1 v M1 H1 e1 st1 rp s1 hd1 => ?_
  split at hd1
  · rename_i b
    exact ⟨b, bl_of rfl rp, hd1 M1 H1 (Step.refl _ _ _) st1⟩
  · exact hd1.elim
/-- a comparison as a test, by its value's rule -/
theorem sndT_cmp {x y whole : Expr} {a b : E} {p : P2} {r : V → V → Hp → VK → Prop} (ho : SndO C W x (fun nv => opd a nv (evE Φ shs a nv))) (ho2 : SndO C W y (fun nv => opd b nv (evE Φ shs b nv)))
    (pe : ∀ X, AtE C W X → PT X whole (fun σ H Q => tE C W x σ H fun v H1 => tE C W y σ H1 fun u H2 => r v u H2 fun z H3 => ∃ k, z = .bl k ∧ Q k H3)) (ok : Ok2 C.K r (p2 p)) : SndT C W whole (evE Φ shs (.op2 p a b)) := by
  intro M H σ nv Q st hd
  refine tT.by pe ?_
  have hd0 : DoneE C W M H σ nv (evE Φ shs (.op2 p a b) nv) (fun z H3 => ∃ k, z = .bl k ∧ Q k H3) := by
    unfold tst at hd
    cases e : evE Φ shs (.op2 p a b) nv with
    | ok r nv1 =>
      rw [e] at hd
      intro v M' H' s st' rr
      simp only [Rs.bind] at hd
      split at hd
      · rename_i k
        simp only [RR, Rep] at rr
        exact ⟨k, rr, hd M' H' (s.less fun a h => .inl h) st'⟩
      · exact hd.elim
    | exc c as nv1 => rw [e] at hd; exact hd
    | stuck => rw [e] at hd; exact hd
  rw [evE] at hd0
  refine SndO.then ho st hd0 fun o nv1 v M1 H1 e1 st1 ov s1 hd1 => ?_
  refine SndO.then ho2 st1 hd1 fun o2 nv2 u M2 H2 e2 st2 ou s2 hd2 => ?_
  have ov2 := OpdR.mono s2.mm ov
  cases l : look nv2 o with
  | none => rw [l] at hd2; exact hd2.elim
  | some d =>
    cases l2 : look nv2 o2 with
    | none => rw [l, l2] at hd2; exact hd2.elim
    | some e =>
      rw [l, l2] at hd2
      have hd3 : DoneE C W M2 H2 σ nv2 (Rs.of (p2 p d e) nv2) _ := hd2
      cases q : p2 p d e with
      | none => rw [q] at hd3; exact hd3.elim
      | some res =>
        rw [q] at hd3
        exact ok M2 H2 d e v u res _ st2.ext (look_ok st2 ov2 l) (look_ok st2 ou l2) q fun v' M' H' p' h' => prim_done hd3 st2 p' h'
/-- one operand, as a test -/
theorem sndT_op1 {x whole : Expr} {a : E} {p : P1} {r : V → Hp → VK → Prop} (ho : SndO C W x (fun nv => opd a nv (evE Φ shs a nv)))
    (pe : ∀ X, AtE C W X → PT X whole (fun σ H Q => tE C W x σ H fun v H1 => r v H1 fun z H3 => ∃ k, z = .bl k ∧ Q k H3)) (ok : Ok1 C.K r (p1 p)) : SndT C W whole (evE Φ shs (.op1 p a)) := by
  intro M H σ nv Q st hd
  refine tT.by pe ?_
  have hd0 : DoneE C W M H σ nv (evE Φ shs (.op1 p a) nv) (fun z H3 => ∃ k, z = .bl k ∧ Q k H3) := by
    unfold tst at hd
    cases e : evE Φ shs (.op1 p a) nv with
    | ok r nv1 =>
      rw [e] at hd
      intro v M' H' s st' rr
      simp only [Rs.bind] at hd
      split at hd
      · rename_i k
        simp only [RR, Rep] at rr
        exact ⟨k, rr, hd M' H' (s.less fun a h => .inl h) st'⟩
      · exact hd.elim
    | exc c as nv1 => rw [e] at hd; exact hd
    | stuck => rw [e] at hd; exact hd
  rw [evE] at hd0
  refine SndO.then ho st hd0 fun o nv1 v M1 H1 e1 st1 ov s1 hd1 => ?_
  cases l : look nv1 o with
  | none => rw [l] at hd1; exact hd1.elim
  | some d =>
    rw [l] at hd1
    have hd2 : DoneE C W M1 H1 σ nv1 (Rs.of (p1 p d) nv1) _ := hd1
    cases q : p1 p d with
    | none => rw [q] at hd2; exact hd2.elim
    | some res =>
      rw [q] at hd2
      exact ok M1 H1 d v res _ st1.ext (look_ok st1 ov l) q fun v' M' H' p' h' => prim_done hd2 st1 p' h'
/-- the truth of a value, as a test -/
theorem sndT_truth {x : Expr} {a : E} (hp : plainT x = true) (ho : SndO C W x (fun nv => opd a nv (evE Φ shs a nv))) : SndT C W x (evE Φ shs (.op1 .truth a)) := by
  refine sndT_op1 (r := fun v H Q => ∃ k, TruV C.K v H k ∧ Q (.bl k) H) ho (fun X hX => ?_) ok_truth
  refine ⟨fun pins s σ H Q I h => ?_⟩
  refine (pt_truth (PEo hX x) (isTrue_of hp _)).run pins s σ H Q I ?_
  have h' : tE C W x σ H fun v H1 => ∃ k, TruV C.K v H1 k ∧ ∃ k', V.bl k = .bl k' ∧ Q k' H1 := h
  intro X' hX' pins' s' I'
  refine thn (h' X' hX' pins' s' I') fun u s2 ⟨v, H2, I2, r2, k, t, k', e, q⟩ => ⟨v, H2, I2, r2, k, ?_, ?_⟩
  · rw [hX.K]; exact t
  · cases e; exact q
end
end G
namespace G
open PySem PySem.Spec PyProof.Rows L2
section
variable {C : Cfg} {W : WX} {M H M1 H1 : Hp} {σ : L2.St} {nv nv1 : Nv} {Φ : Fn} {shs : Nat → Nat → Shape}
/-! ### targets -/
def tG (C : Cfg) (W : WX) (tg : Expr) : TG := fun v σ H Q => ∀ X, AtE C W X → ∀ pins s u, Inv X pins σ H s → RelV v u → wpAny (model X.prog X.w) X.A (assign tg X.env u) (fun _ s' => ∃ σ' H', Inv X pins σ' H' s' ∧ Q σ' H') X.xe s
theorem PGo {X : Cx} (h : AtE C W X) (x : Expr) : PG X x (tG C W x) := ⟨fun pins s σ H v u Q I r t => t X h pins s u I r⟩
theorem tG.by {x : Expr} {t : TG} {v : V} {σ : L2.St} {H : Hp} {Q : L2.St → Hp → Prop} (pe : ∀ X, AtE C W X → PG X x t) (h : t v σ H Q) : tG C W x v σ H Q := fun X hX pins s u I r => (pe X hX).run pins s σ H v u Q I r h
/-- the slots that a target stores to -/
def T.slots : T → List Nat
  | .nm i => [i]
  | .two a b => a.slots ++ b.slots
  | .three a b c => a.slots ++ b.slots ++ c.slots
def chkT1 (N : List Str) (st : Str → Bool) : T → Expr → Bool
  | .nm i, .Name x _ => decide (N[i]? = some x) && st x
  | .two a b, .Tuple [x, y] _ _ => chkT1 N st a x && chkT1 N st b y && noStars [x, y]
  | .three a b c, .Tuple [x, y, z] _ _ => chkT1 N st a x && chkT1 N st b y && chkT1 N st c z && noStars [x, y, z]
  | _, _ => false
theorem pg_nm {i : Nat} {x : Str} {pos : Pos} (h : C.N[i]? = some x) (hs : C.st x = true) (X : Cx) (hX : AtE C W X) : PG X (.Name x pos) (gName i) := by
  obtain ⟨h1, h2⟩ := hX.fn x hs
  exact pg_name hX.nd (by rw [hX.N]; exact h) h1 h2
theorem asg_cons {x : Expr} (h : noStar x = true) (xs : List Expr) (env : PySem.Env) : (assignEach (x :: xs) env) = (false, assign x env) :: assignEach xs env := by
  cases x <;> first | rfl | (cases h)
theorem asg_find : ∀ {xs : List Expr} {env : PySem.Env}, noStars xs = true → (assignEach xs env).findIdx? (·.1) = none
  | [], _, _ => rfl
  | x :: xs, env, h => by
    obtain ⟨h1, h2⟩ := noStars_cons h
    rw [asg_cons h1, List.findIdx?_cons]
    simp [asg_find h2]
theorem asg_len : ∀ {xs : List Expr} {env : PySem.Env}, noStars xs = true → (assignEach xs env).length = xs.length
  | [], _, _ => rfl
  | x :: xs, env, h => by
    obtain ⟨h1, h2⟩ := noStars_cons h
    rw [asg_cons h1, List.length_cons, asg_len h2, List.length_cons]
/-- a store of data to a slot that holds no borrowed list -/
theorem StR.putD (st : StR C.K M H σ nv) {i : Nat} {d : D} {v : V} {u : Unit} {nv' : Nv} (e : stSlot i (.val d) nv = .ok u nv') (r : Rep C.K M d v) :
    StR C.K M H (σ.set i (some v)) nv' ∧ (∀ a, Own (σ.set i (some v)) nv' a → Own σ nv a) ∧ nv' = nv.set i (some (.val d)) := by
  have e' : nv' = nv.set i (some (.val d)) := by
    unfold stSlot at e
    split at e
    · cases e
    · cases e; rfl
    · cases e
  subst e'
  have k : ∀ (j : Nat) (f : Bool) (ds : List D), (nv.set i (some (.val d)))[j]? = some (some (.lv f ds)) → nv[j]? = some (some (.lv f ds)) ∧ i ≠ j := fun j f ds h => by
    by_cases e : i = j
    · subst e
      rw [List.getElem?_set] at h
      split at h
      · split at h <;> cases h
      · contradiction
    · rw [List.getElem?_set_ne e] at h
      exact ⟨h, e⟩
  refine ⟨⟨st.ext, by simp [st.len], fun j t h => ?_, fun j l g g' xs ys w h1 h2 h3 h4 => ?_⟩, fun a h => ?_, rfl⟩
  · by_cases e : i = j
    · subst e
      rw [List.getElem?_set] at h
      split at h
      · split at h
        · cases h
          rename_i h1
          refine ⟨v, ?_, r⟩
          rw [List.getElem?_set_self (by rw [← st.len]; exact h1)]
        · cases h
      · contradiction
    · rw [List.getElem?_set_ne e] at h ⊢
      exact st.get j t h
  · obtain ⟨h1, e1⟩ := k _ _ _ h1
    obtain ⟨h2, e2⟩ := k _ _ _ h2
    rw [List.getElem?_set_ne e1] at h3
    rw [List.getElem?_set_ne e2] at h4
    exact st.apart j l g g' xs ys w h1 h2 h3 h4
  · obtain ⟨j, f, ds, h1, h2⟩ := h
    obtain ⟨h1, e1⟩ := k _ _ _ h1
    rw [List.getElem?_set_ne e1] at h2
    exact ⟨j, f, ds, h1, h2⟩
theorem pg_two {x y : Expr} {kk : Nat} {pos : Pos} (c3 : noStars [x, y] = true) (X : Cx) (hX : AtE C W X) : PG X (.Tuple [x, y] kk pos) (gTup C.K 2 (gCons (tG C W x) (gCons (tG C W y) gNil))) := by
  obtain ⟨n1, n2⟩ := noStars_cons c3
  obtain ⟨n2, n3⟩ := noStars_cons n2
  rw [← hX.K]
  exact pg_tup (n := 2) hX.calm (pgs_cons (PGo hX x) (pgs_cons (PGo hX y) pgs_nil (by rw [asg_cons n2]; rfl)) (by rw [asg_cons n1]; rfl)) (asg_len c3) (asg_find c3)
theorem pg_three {x y z : Expr} {kk : Nat} {pos : Pos} (c3 : noStars [x, y, z] = true) (X : Cx) (hX : AtE C W X) : PG X (.Tuple [x, y, z] kk pos) (gTup C.K 3 (gCons (tG C W x) (gCons (tG C W y) (gCons (tG C W z) gNil)))) := by
  obtain ⟨n1, n2⟩ := noStars_cons c3
  obtain ⟨n2, n3⟩ := noStars_cons n2
  obtain ⟨n3, n4⟩ := noStars_cons n3
  rw [← hX.K]
  exact pg_tup (n := 3) hX.calm (pgs_cons (PGo hX x) (pgs_cons (PGo hX y) (pgs_cons (PGo hX z) pgs_nil (by rw [asg_cons n3]; rfl)) (by rw [asg_cons n2]; rfl)) (by rw [asg_cons n1]; rfl)) (asg_len c3) (asg_find c3)
theorem asgD_two {a b : T} {d : D} {nv nv' : Nv} {u : Unit} (h : asgD (.two a b) d nv = .ok u nv') : ∃ x y, d = .tup [x, y] ∧ ((asgD a x nv).bind fun _ nv1 => asgD b y nv1) = .ok u nv' := by
  cases d with
  | tup ds => rcases ds with _ | ⟨x, _ | ⟨y, _ | ⟨z, r⟩⟩⟩ <;> first | exact ⟨_, _, rfl, h⟩ | cases h
  | _ => cases h
theorem asgD_three {a b c : T} {d : D} {nv nv' : Nv} {u : Unit} (h : asgD (.three a b c) d nv = .ok u nv') : ∃ x y z, d = .tup [x, y, z] ∧ ((asgD a x nv).bind fun _ nv1 => (asgD b y nv1).bind fun _ nv2 => asgD c z nv2) = .ok u nv' := by
  cases d with
  | tup ds => rcases ds with _ | ⟨x, _ | ⟨y, _ | ⟨z, _ | ⟨w, r⟩⟩⟩⟩ <;> first | exact ⟨_, _, _, rfl, h⟩ | cases h
  | _ => cases h
theorem sndG (t : T) : ∀ {x : Expr} {d : D} {v : V} {M H : Hp} {σ : L2.St} {nv nv' : Nv} {u : Unit} {Q : L2.St → Hp → Prop}, chkT1 C.N C.st t x = true → StR C.K M H σ nv → Rep C.K M d v → asgD t d nv = .ok u nv' →
    (∀ σ', StR C.K M H σ' nv' → (∀ a, Own σ' nv' a → Own σ nv a) → (∀ j, j ∉ t.slots → σ'[j]? = σ[j]? ∧ nv'[j]? = nv[j]?) → Q σ' H) → tG C W x v σ H Q := by
  induction t with
  | nm i =>
    intro x d v M H σ nv nv' u Q hc st r e k
    cases x <;> simp only [chkT1] at hc <;> try (cases hc)
    simp only [Bool.and_eq_true, decide_eq_true_eq] at hc
    obtain ⟨h1, h2, h3⟩ := st.putD e r
    refine tG.by (pg_nm hc.1 hc.2) ?_
    refine k _ h1 h2 fun j hj => ?_
    have : i ≠ j := fun z => hj (by simp [T.slots, z])
    subst h3
    exact ⟨List.getElem?_set_ne this, List.getElem?_set_ne this⟩
  | two a b iha ihb =>
    intro x d v M H σ nv nv' u Q hc st r e k
    unfold chkT1 at hc
    split at hc
    · rename_i h; cases h
    · rename_i a' b' x y kk pos ht
      cases ht
      simp only [Bool.and_eq_true] at hc
      obtain ⟨⟨c1, c2⟩, c3⟩ := hc
      obtain ⟨d1, d2, rfl, q⟩ := asgD_two e
      clear e
      simp only [Rep] at r
      obtain ⟨p, vs, rfl, hq, hr⟩ := r
      simp only [Reps] at hr
      obtain ⟨v1, vs1, rfl, r1, v2, vs2, rfl, r2, rfl⟩ := hr
      cases e1 : asgD a d1 nv with
      | ok u1 nv1 =>
        rw [e1] at q
        refine tG.by (pg_two c3) ⟨p, _, rfl, SqT.up st.ext hq, rfl, v1, [v2], rfl, ?_⟩
        refine iha c1 st r1 e1 fun σ1 st1 o1 q1 => ⟨v2, [], rfl, ?_⟩
        refine ihb c2 st1 r2 q fun σ2 st2 o2 q2 => ⟨rfl, ?_⟩
        refine k σ2 st2 (fun a h => o1 a (o2 a h)) fun j hj => ?_
        simp only [T.slots, List.mem_append, not_or] at hj
        exact ⟨(q2 j hj.2).1.trans (q1 j hj.1).1, (q2 j hj.2).2.trans (q1 j hj.1).2⟩
      | exc c as nv1 => rw [e1] at q; cases q
      | stuck => rw [e1] at q; cases q
    · rename_i h; cases h
    · cases hc
  | three a b c iha ihb ihc =>
    intro x d v M H σ nv nv' u Q hc st r e k
    unfold chkT1 at hc
    split at hc
    · rename_i h; cases h
    · rename_i h; cases h
    · rename_i a' b' c' x y z kk pos ht
      cases ht
      simp only [Bool.and_eq_true] at hc
      obtain ⟨⟨⟨c1, c2⟩, c2'⟩, c3⟩ := hc
      obtain ⟨d1, d2, d3, rfl, q⟩ := asgD_three e
      clear e
      simp only [Rep] at r
      obtain ⟨p, vs, rfl, hq, hr⟩ := r
      simp only [Reps] at hr
      obtain ⟨v1, vs1, rfl, r1, v2, vs2, rfl, r2, v3, vs3, rfl, r3, rfl⟩ := hr
      cases e1 : asgD a d1 nv with
      | ok u1 nv1 =>
        rw [e1] at q
        simp only [Rs.bind] at q
        cases e2 : asgD b d2 nv1 with
        | ok u2 nv2 =>
          rw [e2] at q
          refine tG.by (pg_three c3) ⟨p, _, rfl, SqT.up st.ext hq, rfl, v1, [v2, v3], rfl, ?_⟩
          refine iha c1 st r1 e1 fun σ1 st1 o1 q1 => ⟨v2, [v3], rfl, ?_⟩
          refine ihb c2 st1 r2 e2 fun σ2 st2 o2 q2 => ⟨v3, [], rfl, ?_⟩
          refine ihc c2' st2 r3 q fun σ3 st3 o3 q3 => ⟨rfl, ?_⟩
          refine k σ3 st3 (fun a h => o1 a (o2 a (o3 a h))) fun j hj => ?_
          simp only [T.slots, List.mem_append, not_or] at hj
          exact ⟨(q3 j hj.2).1.trans ((q2 j hj.1.2).1.trans (q1 j hj.1.1).1), (q3 j hj.2).2.trans ((q2 j hj.1.2).2.trans (q1 j hj.1.1).2)⟩
        | exc c as nv1 => rw [e2] at q; cases q
        | stuck => rw [e2] at q; cases q
      | exc c as nv1 => rw [e1] at q; cases q
      | stuck => rw [e1] at q; cases q
    · cases hc
/-! ### what is walked -/
def tI (C : Cfg) (W : WX) (tg iter : Expr) : TI := fun σ H R => ∀ X, AtE C W X → ∀ pins s, Inv X pins σ H s →
  wpAny (model X.prog X.w) X.A (eval iter X.env) (fun v s1 => wpAny (model X.prog X.w) X.A (pyIter v) (PIE X pins σ tg R) X.xe s1) X.xe s
theorem PIo {X : Cx} (h : AtE C W X) (tg it : Expr) : PI X tg it (tI C W tg it) := ⟨fun pins s σ H R I t => t X h pins s I⟩
theorem tI.by {tg it : Expr} {t : TI} {σ : L2.St} {H : Hp} {R : It → Hp → Prop} (pe : ∀ X, AtE C W X → PI X tg it t) (h : t σ H R) : tI C W tg it σ H R := fun X hX pins s I => (pe X hX).run pins s σ H R I h
/-- J yields the data xs, wherever what is known still is -/
structure JOk (K : PySem.W.Frag) (M : Hp) (J : It) (xs : List D) : Prop where
  stop : ∀ M' H, Same M M' → Same M' H → J.stop xs.length H
  go : ∀ M' H i d, Same M M' → Same M' H → xs[i]? = some d → J.go i H ∧ ∀ x H', J.yld i H x H' → ∃ M'', Prim M' H M'' H' ∧ Rep K M'' d x
def SndI (C : Cfg) (W : WX) (tg iter : Expr) (f : Nv → Rs (List D)) : Prop := ∀ M H σ nv R, StR C.K M H σ nv → DoneX C W M H σ nv (f nv) (fun xs nv' M' H' => ∀ J, JOk C.K M' J xs → R J H') → tI C W tg iter σ H R
def itf (Φ : Fn) (shs : Nat → Nat → Shape) (k : Ik) (es : List E) (nv : Nv) : Rs (List D) := (evOs Φ shs es nv).bind fun os nv1 => match items k os with
  | none => .stuck
  | some xs => .ok xs nv1
theorem jok_tup {K : PySem.W.Frag} {M : Hp} {a : Addr} {vs : List V} {ds : List D} (h : SqT K M a vs) (r : Reps K M ds vs) (inj : ∀ (H : Hp) ys, Same M H → SqT K H a ys → ys = vs) : JOk K M (Itt K a) ds := by
  refine ⟨fun M' H s1 s2 => ⟨vs, SqT.up (s1.trans s2) h, by rw [r.length]; exact Nat.le_refl _⟩, fun M' H i d s1 s2 hd => ?_⟩
  obtain ⟨v, h1, h2⟩ := r.get hd
  refine ⟨⟨vs, v, SqT.up (s1.trans s2) h, h1⟩, fun x H' y => ?_⟩
  obtain ⟨rfl, y⟩ := y
  have := y vs (SqT.up (s1.trans s2) h)
  rw [h1] at this
  cases this
  exact ⟨M', Prim.refl s2, Rep.mono s1 h2⟩
theorem jok_tup' {K : PySem.W.Frag} {M : Hp} {a : Addr} {vs : List V} {ds : List D} (h : SqT K M a vs) (r : Reps K M ds vs) : JOk K M (Itt K a) ds := by
  refine ⟨fun M' H s1 s2 => ⟨vs, SqT.up (s1.trans s2) h, by rw [r.length]; exact Nat.le_refl _⟩, fun M' H i d s1 s2 hd => ?_⟩
  obtain ⟨v, h1, h2⟩ := r.get hd
  refine ⟨⟨vs, v, SqT.up (s1.trans s2) h, h1⟩, fun x H' y => ?_⟩
  obtain ⟨rfl, y⟩ := y
  have := y vs (SqT.up (s1.trans s2) h)
  rw [h1] at this
  cases this
  exact ⟨M', Prim.refl s2, Rep.mono s1 h2⟩
theorem jok_lst {K : PySem.W.Frag} {M : Hp} {a : Addr} {vs : List V} {ds : List D} (h : SqL K M a vs) (r : Reps K M ds vs) : JOk K M (Itl K a) ds := by
  refine ⟨fun M' H s1 s2 => ⟨vs, (s1.trans s2).seq h, by rw [r.length]; exact Nat.le_refl _⟩, fun M' H i d s1 s2 hd => ?_⟩
  obtain ⟨v, h1, h2⟩ := r.get hd
  refine ⟨⟨vs, v, (s1.trans s2).seq h, h1⟩, fun x H' y => ?_⟩
  obtain ⟨rfl, y⟩ := y
  have := y vs ((s1.trans s2).seq h)
  rw [h1] at this
  cases this
  exact ⟨M', Prim.refl s2, Rep.mono s1 h2⟩
theorem jok_rng {K : PySem.W.Frag} {M : Hp} (lo : Int) (n : Nat) : JOk K M (Itr lo n) ((List.range n).map fun (k : Nat) => D.int (lo + k)) := by
  refine ⟨fun M' H s1 s2 => ?_, fun M' H i d s1 s2 hd => ?_⟩
  · rw [List.length_map, List.length_range]; exact Nat.le_refl _
  · rw [List.getElem?_map] at hd
    by_cases hi : i < n
    · rw [List.getElem?_range hi] at hd
      cases hd
      refine ⟨hi, fun x H' y => ?_⟩
      obtain ⟨rfl, rfl⟩ := y
      exact ⟨M', Prim.refl s2, by simp [Rep]⟩
    · rw [List.getElem?_eq_none (by simpa using hi)] at hd
      cases hd
/-- a tuple or a list, by its value -/
inductive Sq2 where
  | t | l
theorem itf_seq (e : E) (nv : Nv) : itf Φ shs .seq [e] nv = (evOs Φ shs [e] nv).bind fun os nv1 => match items .seq os with | none => .stuck | some xs => .ok xs nv1 := rfl
end
end G
namespace G
open PySem PySem.Spec PyProof.Rows L2
section
variable {C : Cfg} {W : WX} {M H M1 H1 : Hp} {σ : L2.St} {nv nv1 : Nv} {Φ : Fn} {shs : Nat → Nat → Shape}
/-! ### walks -/
def isGl (sc : Scope) (x : Str) : Bool := decide (sc.names.lookup x = some .globalImplicit)
theorem gl_of {X : Cx} {x : Str} (hX : AtE C W X) (h : isGl C.sc x = true) : Gl X x := by
  unfold isGl at h
  show X.env.kindOf x = _
  unfold PySem.Env.kindOf
  rw [hX.sc]
  exact of_decide_eq_true h
def isBrw : E → Bool
  | .brw _ => true
  | _ => false
theorem evOs_one {e : E} (h : isBrw e = false) (nv : Nv) : evOs Φ shs [e] nv = (evE Φ shs e nv).bind fun r nv1 => .ok [.inl r.frz] nv1 := by
  rw [evOs]
  have : argStep e nv (evE Φ shs e nv) (evOs Φ shs []) = (evE Φ shs e nv).bind fun r nv1 => (evOs Φ shs [] nv1).bind fun os nv2 => .ok (.inl r.frz :: os) nv2 := by
    cases e <;> first | rfl | (cases h)
  rw [this]
  congr 1
theorem evOs_len : ∀ {es : List E} {nv nv1 : Nv} {os : List (D ⊕ Nat)}, evOs Φ shs es nv = .ok os nv1 → os.length = es.length
  | [], nv, nv1, os, h => by
    rw [evOs] at h
    cases h
    rfl
  | e :: es, nv, nv1, os, h => by
    rw [evOs] at h
    by_cases hb : isBrw e = true
    · cases e <;> first | (cases hb; done) | skip
      simp only [argStep] at h
      split at h
      · cases q : evOs Φ shs es nv with
        | ok os' nv' =>
          rw [q] at h
          cases h
          simp [evOs_len q]
        | exc c as nv' => rw [q] at h; cases h
        | stuck => rw [q] at h; cases h
      · cases h
    · have hb : isBrw e = false := by simpa using hb
      have : argStep e nv (evE Φ shs e nv) (evOs Φ shs es) = (evE Φ shs e nv).bind fun r nv1 => (evOs Φ shs es nv1).bind fun os nv2 => .ok (.inl r.frz :: os) nv2 := by
        cases e <;> first | rfl | (cases hb)
      rw [this] at h
      cases q0 : evE Φ shs e nv with
      | ok r nv0 =>
        rw [q0] at h
        simp only [Rs.bind] at h
        cases q : evOs Φ shs es nv0 with
        | ok os' nv' =>
          rw [q] at h
          cases h
          simp [evOs_len q]
        | exc c as nv' => rw [q] at h; cases h
        | stuck => rw [q] at h; cases h
      | exc c as nv' => rw [q0] at h; cases h
      | stuck => rw [q0] at h; cases h
def plainSet : Expr → Bool
  | .Set _ _ _ => false
  | _ => true
theorem sndI_seq {tg it : Expr} {e : E} (hb : isBrw e = false) (h : SndE C W it (evE Φ shs e)) : SndI C W tg it (itf Φ shs .seq [e]) := by
  intro M H σ nv R st hd
  unfold itf at hd
  rw [evOs_one hb] at hd
  have body : ∀ {tt : TI} (wi : TI), wi = tt → True := fun _ _ => trivial
  cases ev : evE Φ shs e nv with
  | ok r nv1 =>
    rw [ev] at hd
    simp only [Rs.bind, items] at hd
    have run : ∀ {Q : VK}, (∀ v M1 H1, StR C.K M1 H1 σ nv1 → Rep C.K M1 r.frz v → Step M H (Own σ nv) M1 H1 (Own σ nv1) → Q v H1) → tE C W it σ H Q := fun {Q} k => by
      refine h M H σ nv Q st ?_
      rw [ev]
      intro v M' H' s st' rr
      obtain ⟨M2, st2, rp, s2, _⟩ := freeze st' rr s
      exact k v M2 H' st2 rp s2
    generalize r.frz = d at hd run
    cases d with
    | tup ds =>
      refine tI.by (t := iTup C.K (tE C W it)) (fun X hX => by rw [← hX.K]; exact pi_tup (PEo hX it)) ?_
      refine run fun v M1 H1 st1 rp s1 => ?_
      simp only [Rep] at rp
      obtain ⟨a, vs, rfl, h1, h2⟩ := rp
      exact ⟨a, rfl, ⟨vs, SqT.up st1.ext h1⟩, hd M1 H1 s1 st1 _ (jok_tup' h1 h2)⟩
    | lst ds =>
      refine tI.by (t := iList C.K (tE C W it)) (fun X hX => by rw [← hX.K]; exact pi_list (PEo hX it)) ?_
      refine run fun v M1 H1 st1 rp s1 => ?_
      simp only [Rep] at rp
      obtain ⟨a, vs, rfl, h1, h2⟩ := rp
      exact ⟨a, rfl, ⟨vs, SqL.of (st1.ext _ _ h1)⟩, hd M1 H1 s1 st1 _ (jok_lst (SqL.of h1) h2)⟩
    | scr ns =>
      refine tI.by (t := iList C.K (tE C W it)) (fun X hX => by rw [← hX.K]; exact pi_list (PEo hX it)) ?_
      refine run fun v M1 H1 st1 rp s1 => ?_
      simp only [Rep] at rp
      obtain ⟨a, rfl, h1⟩ := rp
      exact ⟨a, rfl, ⟨_, st1.ext.seq h1⟩, hd M1 H1 s1 st1 _ (jok_lst h1 Reps.of_ints)⟩
    | str z =>
      simp only [lstOf] at hd
      by_cases hz : z.length ≤ SZ
      · rw [if_pos hz] at hd
        refine tI.by (t := iStr (tE C W it)) (fun X hX => pi_str (PEo hX it)) ?_
        refine run fun v M1 H1 st1 rp s1 => ?_
        simp only [Rep] at rp
        subst rp
        refine ⟨z, rfl, hd M1 H1 s1 st1 _ ⟨fun M' H s1 s2 => ?_, fun M' H i d s1 s2 hd => ?_⟩⟩
        · show z.cps.size ≤ _
          simp
        · rw [List.getElem?_map] at hd
          cases q : z.cps.toList[i]? with
          | none => rw [q] at hd; cases hd
          | some c =>
            rw [q] at hd
            cases hd
            have q' : z.cps[i]? = some c := by simpa using q
            refine ⟨?_, fun x H' y => ?_⟩
            · show i < z.cps.size
              exact (Array.getElem?_eq_some_iff.mp q').1
            · obtain ⟨rfl, c', h1, rfl⟩ := y
              rw [q'] at h1
              cases h1
              exact ⟨M', Prim.refl s2, by simp [Rep]⟩
      · rw [if_neg hz] at hd; exact hd.elim
    | _ => exact hd.elim
  | exc c as nv1 =>
    rw [ev] at hd
    refine tI.by (t := iTup C.K (tE C W it)) (fun X hX => by rw [← hX.K]; exact pi_tup (PEo hX it)) ?_
    refine h M H σ nv _ st ?_
    rw [ev]
    exact hd
  | stuck => rw [ev] at hd; exact hd.elim
theorem b62_ok {i : Int} (h : b62 i = true) : -(2 ^ 62) ≤ i ∧ i < 2 ^ 62 := by
  unfold b62 at h
  simp only [Bool.and_eq_true, decide_eq_true_eq] at h
  omega
theorem sndI_rng1 {tg x : Expr} {e : E} {p pos : Pos} (hg : isGl C.sc "range" = true) (hm : C.mg "range" = none) (ns : noStar x = true) (h : SndA C W [x] (evOs Φ shs [e])) (hb : isBrw e = false) :
    SndI C W tg (.Call (.Name "range" p) [x] [] pos) (itf Φ shs .rng [e]) := by
  intro M H σ nv R st hd
  refine tI.by (fun X hX => pi_range1 (gl_of hX hg) (by rw [hX.mg]; exact hm) (PAo hX [x]) (by rw [star_cons ns]; rfl)) ?_
  unfold itf at hd
  refine h M H σ nv _ st ?_
  cases ev : evOs Φ shs [e] nv with
  | ok os nv1 =>
    rw [ev] at hd
    intro M1 H1 s1 st1 vs hv
    have hd := DoneX.later hd s1
    simp only [Rs.bind] at hd
    match os, hd, hv with
    | [.inl (.int n)], hd, hv =>
      simp only [items] at hd
      obtain ⟨v, vs', rfl, h1, h2⟩ := hv
      have h2 : vs' = [] := h2
      subst h2
      have h1 : Rep C.K M1 (.int n) v := h1
      simp only [Rep] at h1
      subst h1
      cases hb62 : b62 n with
      | true =>
        rw [hb62] at hd
        have b := b62_ok hb62
        refine ⟨n, rfl, b.1, b.2, hd M1 H1 (Step.refl _ _ _) st1 _ ?_⟩
        have := jok_rng (K := C.K) (M := M1) 0 n.toNat
        simpa using this
      | false => rw [hb62] at hd; exact hd.elim
    | [], hd, hv => exact hd.elim
    | [.inr _], hd, hv => exact hd.elim
    | [.inl .non], hd, hv => exact hd.elim
    | [.inl (.bl _)], hd, hv => exact hd.elim
    | [.inl (.str _)], hd, hv => exact hd.elim
    | [.inl (.tup _)], hd, hv => exact hd.elim
    | [.inl (.lst _)], hd, hv => exact hd.elim
    | [.inl (.scr _)], hd, hv => exact hd.elim
    | a :: b :: c, hd, hv =>
      have := hv.length
      -- one operand gives one
      rw [evOs_one hb] at ev
      cases q : evE Φ shs e nv with
      | ok r nv' => rw [q] at ev; cases ev
      | exc c as nv' => rw [q] at ev; cases ev
      | stuck => rw [q] at ev; cases ev
  | exc c as nv1 => rw [ev] at hd; exact hd
  | stuck => rw [ev] at hd; exact hd
theorem sndI_rng2 {tg x y : Expr} {e f : E} {p pos : Pos} (hg : isGl C.sc "range" = true) (hm : C.mg "range" = none) (ns : noStar x = true) (ns2 : noStar y = true) (h : SndA C W [x, y] (evOs Φ shs [e, f])) :
    SndI C W tg (.Call (.Name "range" p) [x, y] [] pos) (itf Φ shs .rng [e, f]) := by
  intro M H σ nv R st hd
  refine tI.by (fun X hX => pi_range2 (gl_of hX hg) (by rw [hX.mg]; exact hm) (PAo hX [x, y]) (by rw [star_cons ns, star_cons ns2]; rfl) (by rw [star_cons ns2]; rfl)) ?_
  unfold itf at hd
  refine h M H σ nv _ st ?_
  cases ev : evOs Φ shs [e, f] nv with
  | ok os nv1 =>
    rw [ev] at hd
    intro M1 H1 s1 st1 vs hv
    have hd := DoneX.later hd s1
    simp only [Rs.bind] at hd
    have key : ∀ a b : Int, os = [.inl (.int a), .inl (.int b)] → ∃ i j : Int, vs = [.int i, .int j] ∧ (-(2 ^ 62) ≤ i ∧ i < 2 ^ 62 ∧ -(2 ^ 62) ≤ j ∧ j < 2 ^ 62) ∧ R (Itr i (j - i).toNat) H1 := fun a b eo => by
      subst eo
      simp only [items] at hd
      obtain ⟨v, vs', rfl, h1, w, ws', rfl, h2, h3⟩ := hv
      have h3 : ws' = [] := h3
      subst h3
      have h1 : Rep C.K M1 (.int a) v := h1
      have h2 : Rep C.K M1 (.int b) w := h2
      simp only [Rep] at h1 h2
      subst h1 h2
      by_cases hb62 : (b62 a && b62 b) = true
      · rw [if_pos hb62] at hd
        rw [Bool.and_eq_true] at hb62
        have b1 := b62_ok hb62.1
        have b2 := b62_ok hb62.2
        exact ⟨a, b, rfl, ⟨b1.1, b1.2, b2.1, b2.2⟩, hd M1 H1 (Step.refl _ _ _) st1 _ (jok_rng a (b - a).toNat)⟩
      · rw [if_neg hb62] at hd; exact hd.elim
    cases hi : items .rng os with
    | none => rw [hi] at hd; exact hd.elim
    | some xs =>
      have hl := evOs_len ev
      match os, hi, hl with
      | [.inl (.int a), .inl (.int b)], hi, hl => exact key a b rfl
      | [.inr _, _], hi, hl => cases hi
      | [.inl (.int _), .inr _], hi, hl => cases hi
      | [.inl (.int _), .inl .non], hi, hl => cases hi
      | [.inl (.int _), .inl (.bl _)], hi, hl => cases hi
      | [.inl (.int _), .inl (.str _)], hi, hl => cases hi
      | [.inl (.int _), .inl (.tup _)], hi, hl => cases hi
      | [.inl (.int _), .inl (.lst _)], hi, hl => cases hi
      | [.inl (.int _), .inl (.scr _)], hi, hl => cases hi
      | [.inl .non, _], hi, hl => cases hi
      | [.inl (.bl _), _], hi, hl => cases hi
      | [.inl (.str _), _], hi, hl => cases hi
      | [.inl (.tup _), _], hi, hl => cases hi
      | [.inl (.lst _), _], hi, hl => cases hi
      | [.inl (.scr _), _], hi, hl => cases hi
  | exc c as nv1 => rw [ev] at hd; exact hd
  | stuck => rw [ev] at hd; exact hd
end
end G
namespace G
open PySem PySem.Spec PyProof.Rows L2
section
variable {C : Cfg} {W : WX} {M H M1 H1 : Hp} {σ σ' : L2.St} {nv nv1 : Nv} {Φ : Fn} {shs : Nat → Nat → Shape}
/-! ### the slots of a block -/
theorem wipeN_length (nv : Nv) : ∀ vs : List Nat, (wipeN nv vs).length = nv.length
  | [] => rfl
  | v :: vs => by unfold wipeN; rw [List.length_set, wipeN_length nv vs]
theorem wipeN_some {i : Nat} {x : Sl} : ∀ {vs : List Nat}, (wipeN nv vs)[i]? = some (some x) → nv[i]? = some (some x) ∧ i ∉ vs
  | [], h => ⟨h, by simp⟩
  | v :: vs, h => by
    unfold wipeN at h
    by_cases hi : v = i
    · subst hi
      rw [List.getElem?_set] at h
      split at h
      · split at h <;> cases h
      · contradiction
    · rw [List.getElem?_set_ne hi] at h
      obtain ⟨h1, h2⟩ := wipeN_some h
      exact ⟨h1, by simp only [List.mem_cons, not_or]; exact ⟨fun e => hi e.symm, h2⟩⟩
theorem wipe_out' {i : Nat} : ∀ {vs : List Nat}, i ∉ vs → (wipe σ vs)[i]? = σ[i]?
  | [], h => rfl
  | v :: vs, h => by
    simp only [List.mem_cons, not_or] at h
    unfold wipe
    rw [List.getElem?_set_ne (fun e => h.1 e.symm)]
    exact wipe_out' h.2
theorem wipe_in {i : Nat} : ∀ {vs : List Nat}, i ∈ vs → i < σ.length → (wipe σ vs)[i]? = some none
  | v :: vs, h, hl => by
    unfold wipe
    by_cases e : v = i
    · subst e
      rw [List.getElem?_set_self (by rw [wipe_length]; exact hl)]
    · rw [List.getElem?_set_ne e]
      exact wipe_in ((List.mem_cons.mp h).resolve_left (fun z => e z.symm)) hl
theorem wipe_eq {vs : List Nat} (hl : σ'.length = σ.length) (h : ∀ j, j ∉ vs → σ'[j]? = σ[j]?) : wipe σ' vs = wipe σ vs := by
  apply List.ext_getElem?
  intro j
  by_cases hj : j ∈ vs
  · by_cases hb : j < σ.length
    · rw [wipe_in hj hb, wipe_in hj (by rw [hl]; exact hb)]
    · rw [List.getElem?_eq_none (by rw [wipe_length, hl]; omega), List.getElem?_eq_none (by rw [wipe_length]; omega)]
  · rw [wipe_out' hj, wipe_out' hj, h j hj]
theorem StR.wiped (st : StR C.K M H σ nv) (vs : List Nat) : StR C.K M H (wipe σ vs) (wipeN nv vs) ∧ ∀ a, Own (wipe σ vs) (wipeN nv vs) a → Own σ nv a := by
  refine ⟨⟨st.ext, by rw [wipeN_length, wipe_length, st.len], fun i s h => ?_, fun i j f g xs ys v h1 h2 h3 h4 => ?_⟩, fun a h => ?_⟩
  · obtain ⟨h1, h2⟩ := wipeN_some h
    rw [wipe_out' h2]
    exact st.get i s h1
  · obtain ⟨h1, n1⟩ := wipeN_some h1
    obtain ⟨h2, n2⟩ := wipeN_some h2
    rw [wipe_out' n1] at h3
    rw [wipe_out' n2] at h4
    exact st.apart i j f g xs ys v h1 h2 h3 h4
  · obtain ⟨i, f, ds, h1, h2⟩ := h
    obtain ⟨h1, n1⟩ := wipeN_some h1
    rw [wipe_out' n1] at h2
    exact ⟨i, f, ds, h1, h2⟩
theorem back_length (old : Nv) : ∀ vs : List Nat, (back old nv vs).length = nv.length
  | [] => rfl
  | v :: vs => by unfold back; rw [List.length_set, back_length old vs]
theorem back_some {old : Nv} {i : Nat} {x : Sl} : ∀ {vs : List Nat}, (back old nv vs)[i]? = some (some x) → (i ∈ vs ∧ old[i]? = some (some x)) ∨ (i ∉ vs ∧ nv[i]? = some (some x))
  | [], h => .inr ⟨by simp, h⟩
  | v :: vs, h => by
    unfold back at h
    by_cases hi : v = i
    · subst hi
      rw [List.getElem?_set] at h
      split at h
      · split at h
        · have h : old[v]?.join = some x := Option.some.inj h
          refine .inl ⟨by simp, ?_⟩
          cases q : old[v]? with
          | none => rw [q] at h; cases h
          | some o =>
            rw [q] at h
            have h : o = some x := h
            rw [h]
        · cases h
      · contradiction
    · rw [List.getElem?_set_ne hi] at h
      rcases back_some h with ⟨h1, h2⟩ | ⟨h1, h2⟩
      · exact .inl ⟨List.mem_cons_of_mem _ h1, h2⟩
      · exact .inr ⟨by simp only [List.mem_cons, not_or]; exact ⟨fun e => hi e.symm, h1⟩, h2⟩
/-- behind a block the slots are as before, but what is own may have changed -/
theorem StR.backed {M5 H5 : Hp} {nv5 : Nv} {vs : List Nat} (st : StR C.K M H σ nv) (st5 : StR C.K M5 H5 (wipe σ vs) nv5) (s : Step M H (Own (wipe σ vs) (wipeN nv vs)) M5 H5 (Own (wipe σ vs) nv5))
    (out : ∀ i s, nv5[i]? = some (some s) → i ∉ vs) : StR C.K M5 H5 σ (back nv nv5 vs) ∧ Step M H (Own σ nv) M5 H5 (Own σ (back nv nv5 vs)) := by
  have wo := (st.wiped vs).2
  -- an own list of a hidden slot
  have hid : ∀ i f ds a, i ∈ vs → nv[i]? = some (some (.lv f ds)) → σ[i]? = some (some (.ref a)) → ¬ Own (wipe σ vs) (wipeN nv vs) a := fun i f ds a hi h1 h2 z => by
    obtain ⟨j, g, ys, h3, h4⟩ := z
    obtain ⟨h3, n3⟩ := wipeN_some h3
    rw [wipe_out' n3] at h4
    have := st.apart i j f g ds ys _ h1 h3 h2 h4
    exact n3 (this ▸ hi)
  have keepL : ∀ i f ds, i ∈ vs → nv[i]? = some (some (.lv f ds)) → ∃ a xs, σ[i]? = some (some (.ref a)) ∧ M5 a = none ∧ H5 a = some (.lst xs) ∧ Reps C.K M5 ds xs ∧ ¬ Own (wipe σ vs) nv5 a := fun i f ds hi h => by
    obtain ⟨v, e1, a, xs, rfl, e2, e3, e4⟩ := st.get i _ h
    have no := hid i f ds a hi h e1
    refine ⟨a, xs, e1, ?_, s.keep _ _ e3 no, Reps.mono s.mm e4, fun z => ?_⟩
    · cases q : M5 a with
      | none => rfl
      | some o =>
        rcases s.mnew a o q with z | z | z
        · rw [e2] at z; cases z
        · exact (no z).elim
        · rw [e3] at z; cases z
    · rcases s.own a z with z | z
      · exact no z
      · rw [e3] at z; cases z
  refine ⟨⟨st5.ext, by rw [back_length, st5.len, wipe_length], fun i t h => ?_, fun i j f g xs ys v h1 h2 h3 h4 => ?_⟩, s.mm, fun a o h n => s.keep a o h fun z => n (wo a z), fun a h => ?_, s.dom, fun a o h => ?_⟩
  · rcases back_some h with ⟨hi, h1⟩ | ⟨hi, h1⟩
    · cases t with
      | val d =>
        obtain ⟨v, e1, e2⟩ := st.get i _ h1
        exact ⟨v, e1, Rep.mono s.mm e2⟩
      | lv f ds =>
        obtain ⟨a, xs, e1, e2, e3, e4, _⟩ := keepL i f ds hi h1
        exact ⟨_, e1, a, xs, rfl, e2, e3, e4⟩
    · obtain ⟨v, e1, e2⟩ := st5.get i _ h1
      rw [wipe_out' hi] at e1
      exact ⟨v, e1, e2⟩
  · rcases back_some h1 with ⟨i1, h1⟩ | ⟨i1, h1⟩ <;> rcases back_some h2 with ⟨i2, h2⟩ | ⟨i2, h2⟩
    · exact st.apart i j f g xs ys v h1 h2 h3 h4
    · obtain ⟨a, zs, e1, _, _, _, no⟩ := keepL i f xs i1 h1
      rw [h3] at e1
      cases e1
      exact (no ⟨j, g, ys, h2, by rw [wipe_out' i2]; exact h4⟩).elim
    · obtain ⟨a, zs, e1, _, _, _, no⟩ := keepL j g ys i2 h2
      rw [h4] at e1
      cases e1
      exact (no ⟨i, f, xs, h1, by rw [wipe_out' i1]; exact h3⟩).elim
    · exact st5.apart i j f g xs ys v h1 h2 (by rw [wipe_out' i1]; exact h3) (by rw [wipe_out' i2]; exact h4)
  · obtain ⟨i, f, ds, h1, h2⟩ := h
    rcases back_some h1 with ⟨hi, h1⟩ | ⟨hi, h1⟩
    · exact .inl ⟨i, f, ds, h1, h2⟩
    · rcases s.own a ⟨i, f, ds, h1, by rw [wipe_out' hi]; exact h2⟩ with z | z
      · exact .inl (wo a z)
      · exact .inr z
  · rcases s.mnew a o h with z | z | z
    · exact .inl z
    · exact .inr (.inl (wo a z))
    · exact .inr (.inr z)
/-! ### list comprehensions -/
/-- the configuration of a block -/
def Cfg.blk (C : Cfg) (scope : Scope) : Cfg := { C with sc := relS scope C.sc, st := fun x => decide (scope.names.lookup x = some .local) }
abbrev W0 : WX := fun _ _ _ _ => False
theorem AtE.blk {X : Cx} (hX : AtE C W X) (scope : Scope) (s : Shared) (H : Hp) (D : Addr) (cl : List (Str × Addr)) (fp : List Addr) : AtE (C.blk scope) W0 (X.blk s H scope (compEnvC scope cl D X.env) fp) := by
  have esc : (compEnvC scope cl D X.env).scope = relS scope C.sc := by rw [← hX.sc]; rfl
  refine ⟨hX.prog, hX.w, hX.K, hX.mg, hX.base, hX.N, esc, hX.calm, hX.room, hX.nd, takes0, fun x hx => ?_⟩
  have hx : scope.names.lookup x = some .local := of_decide_eq_true hx
  have : (compEnvC scope cl D X.env).scope.names.lookup x = some .local := by
    rw [esc]
    exact lookup_relS_keep (by decide) hx
  exact ⟨.inl this, .inr this⟩
def SndCs (C : Cfg) (W : WX) (xs : List Expr) (f : Nv → Rs Bool) : Prop := ∀ M H σ nv (Q : Bool → Hp → Prop), StR C.K M H σ nv → DoneX C W M H σ nv (f nv) (fun b nv' M' H' => Q b H') →
  ∃ t : TT, (∀ X, AtE C W X → PTs X xs t) ∧ t σ H Q
def tC1 (C : Cfg) (W : WX) (xs : List Expr) : TT := fun σ H Q => ∀ X, AtE C W X → ∀ pins s, Inv X pins σ H s →
  wpAny (model X.prog X.w) X.A (forIn xs true fun c r => if r = true then do let ok ← isTrue c X.env (eval c X.env); pure (ForInStep.yield ok) else pure (ForInStep.yield r)) (TP X pins σ Q) X.xe s
theorem PTso {X : Cx} (h : AtE C W X) (xs : List Expr) : PTs X xs (tC1 C W xs) := ⟨fun pins s σ H Q I t => t X h pins s I⟩
def SndC (C : Cfg) (W : WX) (xs : List Expr) (f : Nv → Rs Bool) : Prop := ∀ M H σ nv (Q : Bool → Hp → Prop), StR C.K M H σ nv → DoneX C W M H σ nv (f nv) (fun b nv' M' H' => Q b H') → tC1 C W xs σ H Q
theorem sndC_nil : SndC C W [] (evCs Φ shs []) := by
  intro M H σ nv Q st hd X hX pins s I
  rw [evCs] at hd
  exact pts_nil.run pins s σ H Q I (hd M H (Step.refl _ _ _) st)
theorem sndC_one {x : Expr} {c : E} (h : SndT C W x (evE Φ shs c)) : SndC C W [x] (evCs Φ shs [c]) := by
  intro M H σ nv Q st hd X hX pins s I
  refine (pts_one (PTo hX x)).run pins s σ H Q I ?_
  refine h M H σ nv Q st ?_
  rw [evCs] at hd
  unfold tst
  cases q : evE Φ shs c nv with
  | ok r nv1 =>
    rw [q] at hd
    simp only [Rs.bind] at hd ⊢
    cases r with
    | val d =>
      cases d with
      | bl k =>
        cases k with
        | true => rw [evCs] at hd; exact hd
        | false => exact hd
      | _ => exact hd
    | own ds => exact hd
  | exc c as nv1 => rw [q] at hd; exact hd
  | stuck => rw [q] at hd; exact hd
theorem DoneX.nox {α : Type} {res : Rs α} {post : α → Nv → Hp → Hp → Prop} (h : DoneX C W M H σ nv res.nox post) {W' : WX} : DoneX C W' M H σ nv res post := by
  cases res with
  | ok a e => exact h
  | exc c as e => exact h.elim
  | stuck => exact h
def turnOf (Φ : Fn) (shs : Nat → Nat → Shape) (t : T) (cs : List E) (elt : E) (own : List Nat) (d : D) (nv : Nv) : Rs (Option D) := (asgD t d nv).bind fun _ nv2 => (evCs Φ shs cs nv2).bind fun b nv3 =>
  if b = true then (evE Φ shs elt nv3).bind fun r nv4 => .ok (some r.frz) (wipeN nv4 own) else .ok none (wipeN nv3 own)
theorem Step.swap {O O' : Addr → Prop} {M' H' : Hp} {O2 O2' : Addr → Prop} (s : Step M H O M' H' O') (h1 : ∀ a, O a ↔ O2 a) (h2 : ∀ a, O2' a → O' a) : Step M H O2 M' H' O2' :=
  ⟨s.mm, fun a o h n => s.keep a o h fun z => n ((h1 a).mp z), fun a h => (s.own a (h2 a h)).imp (h1 a).mp id, s.dom, fun a o h => (s.mnew a o h).imp id (Or.imp (h1 a).mp id)⟩
end
end G
namespace G
open PySem PySem.Spec PyProof.Rows L2
section
variable {C : Cfg} {W : WX} {M H M1 H1 : Hp} {σ σ' : L2.St} {nv nv1 : Nv} {Φ : Fn} {shs : Nat → Nat → Shape}
theorem Step.widen {O O' : Addr → Prop} {M' H' : Hp} {O2 O2' : Addr → Prop} (s : Step M H O M' H' O') (h1 : ∀ a, O a → O2 a) (h2 : ∀ a, O2' a → O' a) : Step M H O2 M' H' O2' :=
  ⟨s.mm, fun a o h n => s.keep a o h fun z => n (h1 a z), fun a h => (s.own a (h2 a h)).imp (h1 a) id, s.dom, fun a o h => (s.mnew a o h).imp id (Or.imp (h1 a) id)⟩
theorem asgD_ok : ∀ (t : T) {d : D} {nv : Nv} {r : Rs Unit}, asgD t d nv = r → r = .stuck ∨ ∃ nv', r = .ok () nv' ∧ nv'.length = nv.length
  | .nm i, d, nv, r, h => by
    simp only [asgD, stSlot] at h
    split at h
    · exact .inl h.symm
    · exact .inr ⟨_, h.symm, by simp⟩
    · exact .inl h.symm
  | .two a b, d, nv, r, h => by
    cases d with
    | tup ds =>
      match ds, h with
      | [x, y], h =>
        simp only [asgD] at h
        rcases asgD_ok a (d := x) (nv := nv) rfl with e | ⟨nv1, e, l1⟩
        · rw [e] at h; exact .inl h.symm
        · rw [e] at h
          simp only [Rs.bind] at h
          rcases asgD_ok b (d := y) (nv := nv1) rfl with e2 | ⟨nv2, e2, l2⟩
          · rw [e2] at h; exact .inl h.symm
          · rw [e2] at h; exact .inr ⟨nv2, h.symm, l2.trans l1⟩
      | [], h => exact .inl h.symm
      | [_], h => exact .inl h.symm
      | _ :: _ :: _ :: _, h => exact .inl h.symm
    | _ => exact .inl h.symm
  | .three a b c, d, nv, r, h => by
    cases d with
    | tup ds =>
      match ds, h with
      | [x, y, z], h =>
        simp only [asgD] at h
        rcases asgD_ok a (d := x) (nv := nv) rfl with e | ⟨nv1, e, l1⟩
        · rw [e] at h; exact .inl h.symm
        · rw [e] at h
          simp only [Rs.bind] at h
          rcases asgD_ok b (d := y) (nv := nv1) rfl with e2 | ⟨nv2, e2, l2⟩
          · rw [e2] at h; exact .inl h.symm
          · rw [e2] at h
            simp only [Rs.bind] at h
            rcases asgD_ok c (d := z) (nv := nv2) rfl with e3 | ⟨nv3, e3, l3⟩
            · rw [e3] at h; exact .inl h.symm
            · rw [e3] at h; exact .inr ⟨nv3, h.symm, l3.trans (l2.trans l1)⟩
      | [], h => exact .inl h.symm
      | [_], h => exact .inl h.symm
      | [_, _], h => exact .inl h.symm
      | _ :: _ :: _ :: _ :: _, h => exact .inl h.symm
    | _ => exact .inl h.symm
theorem kept_at {O O' : Addr → Prop} {M' H' : Hp} {a : Addr} {o : HO} (s : Step M H O M' H' O') (hH : H a = some o) (hM : M a = none) (no : ¬ O a) : H' a = some o ∧ M' a = none ∧ ¬ O' a := by
  refine ⟨s.keep a o hH no, ?_, fun z => ?_⟩
  · cases q : M' a with
    | none => rfl
    | some u =>
      rcases s.mnew a u q with z | z | z
      · rw [hM] at z; cases z
      · exact (no z).elim
      · rw [hH] at z; cases z
  · rcases s.own a z with z | z
    · exact no z
    · rw [hH] at z; cases z
theorem wipeN_out {i : Nat} {s : Sl} {nv : Nv} {vs : List Nat} (h : (wipeN nv vs)[i]? = some (some s)) : i ∉ vs := (wipeN_some h).2
/-- the heap without the list that is being made -/
def hide (D0 : Addr) (H : Hp) : Hp := fun a => if a = D0 then none else H a
theorem hide_at {D0 : Addr} {H : Hp} : hide D0 H D0 = none := if_pos rfl
theorem hide_ne {D0 a : Addr} {H : Hp} (h : a ≠ D0) : hide D0 H a = H a := if_neg h
theorem hide_some {D0 a : Addr} {H : Hp} {o : HO} (h : hide D0 H a = some o) : a ≠ D0 ∧ H a = some o := by
  by_cases e : a = D0
  · subst e; rw [hide_at] at h; cases h
  · rw [hide_ne e] at h; exact ⟨e, h⟩
theorem hide_none {D0 a : Addr} {H : Hp} (h : H a = none) : hide D0 H a = none := by
  by_cases e : a = D0
  · subst e; exact hide_at
  · rw [hide_ne e]; exact h
theorem hide_upd {D0 : Addr} {H : Hp} {o : HO} : hide D0 (upd H D0 o) = hide D0 H := by
  funext a
  by_cases e : a = D0
  · subst e; rw [hide_at, hide_at]
  · rw [hide_ne e, hide_ne e, upd_ne e]
theorem Step.hide {O O' : Addr → Prop} {M' H' : Hp} {D0 : Addr} (s : Step M H O M' H' O') : Step M (hide D0 H) O M' (hide D0 H') O' :=
  ⟨s.mm, fun a o h n => by
    obtain ⟨h1, h2⟩ := hide_some h
    rw [hide_ne h1]
    exact s.keep a o h2 n, fun a h => (s.own a h).imp id hide_none, fun a h => by
    by_cases e : a = D0
    · subst e; exact hide_at
    · rw [hide_ne e] at h; exact hide_none (s.dom a h), fun a o h => (s.mnew a o h).imp id (Or.imp id hide_none)⟩
theorem Step.show {O : Addr → Prop} {D0 : Addr} : Step M (G.hide D0 H) O M H O :=
  ⟨Same.refl _, fun a o h _ => (hide_some h).2, fun a h => .inl h, fun a h => hide_none h, fun a o h => .inl h⟩
/-- a turn of a comprehension -/
theorem turn_ok {scope : Scope} {t : T} {cs : List E} {elt : E} {own : List Nat} {tg ex : Expr} {ifs : List Expr} {x : V} {d : D} {o : Option D → Nv → Rs (List D)} {post : List D → Nv → Hp → Hp → Prop} {D0 : Addr} {acc : List D} {vs : List V} {Nx : Hp → Prop}
    (ht : chkT1 (C.blk scope).N (C.blk scope).st t tg = true) (hts : ∀ i ∈ t.slots, i ∈ own) (hc : SndC (C.blk scope) W0 ifs (evCs Φ shs cs)) (he : SndE (C.blk scope) W0 ex (evE Φ shs elt))
    (st : StR C.K M H (wipe σ own) nv) (r : Rep C.K M d x) (hD : H D0 = some (.lst vs)) (hDr : Reps C.K M acc vs) (hDn : M D0 = none) (hDo : ¬ Own (wipe σ own) nv D0)
    (hd : DoneX (C.blk scope) W0 M (hide D0 H) (wipe σ own) nv ((turnOf Φ shs t cs elt own d nv).bind o).nox post)
    (hz : ∀ a nv5 M5 H5, DoneX (C.blk scope) W0 M5 (hide D0 H5) (wipe σ own) nv5 (o (some a) nv5).nox post → acc.length < SZ)
    (hS : ∀ y w nv5 M5 H5, StR C.K M5 H5 (wipe σ own) nv5 → Step M H (Own (wipe σ own) nv) M5 H5 (Own (wipe σ own) nv5) → DoneX (C.blk scope) W0 M5 (hide D0 H5) (wipe σ own) nv5 (o (some y) nv5).nox post →
      M5 D0 = none → ¬ Own (wipe σ own) nv5 D0 → (∀ i s, nv5[i]? = some (some s) → i ∉ own) → H5 D0 = some (.lst vs) → Reps C.K M5 acc vs → Rep C.K M5 y w → Nx (upd H5 D0 (.lst (vs ++ [w]))))
    (hN : ∀ nv5 M5 H5, StR C.K M5 H5 (wipe σ own) nv5 → Step M H (Own (wipe σ own) nv) M5 H5 (Own (wipe σ own) nv5) → DoneX (C.blk scope) W0 M5 (hide D0 H5) (wipe σ own) nv5 (o none nv5).nox post →
      M5 D0 = none → ¬ Own (wipe σ own) nv5 D0 → (∀ i s, nv5[i]? = some (some s) → i ∉ own) → H5 D0 = some (.lst vs) → Reps C.K M5 acc vs → Nx H5) :
    tG (C.blk scope) W0 tg x (wipe σ own) H fun σ2 H2 => wipe σ2 own = wipe σ own ∧ tC1 (C.blk scope) W0 ifs σ2 H2 fun b H3 =>
      if b = true then tE (C.blk scope) W0 ex σ2 H3 fun y H4 => ∃ acc, H4 D0 = some (.lst acc) ∧ acc.length < sizeLine ∧ Nx (upd H4 D0 (.lst (acc ++ [y]))) else Nx H3 := by
  unfold turnOf at hd
  rcases asgD_ok t (d := d) (nv := nv) rfl with e1 | ⟨nv2, e1, ln⟩
  · rw [e1] at hd; exact hd.elim
  · rw [e1] at hd
    simp only [Rs.bind] at hd
    refine sndG t (C := C.blk scope) (W := W0) ht st r e1 fun σ2 st2 o2 q2 => ?_
    have ew : wipe σ2 own = wipe σ own := by
      have : wipe σ2 own = wipe (wipe σ own) own := by
        refine wipe_eq ?_ fun j hj => (q2 j fun z => hj (hts j z)).1
        rw [← st2.len, ln, st.len]
      rw [this]
      exact wipe_eq (wipe_length _ _) fun j hj => wipe_out' hj
    refine ⟨ew, ?_⟩
    have fin : ∀ {nv4 : Nv} {M4 H4 : Hp}, StR C.K M4 H4 σ2 nv4 → Step M H (Own σ2 nv2) M4 H4 (Own σ2 nv4) → StR C.K M4 H4 (wipe σ own) (wipeN nv4 own) ∧ Step M H (Own (wipe σ own) nv) M4 H4 (Own (wipe σ own) (wipeN nv4 own)) := fun {nv4 M4 H4} st4 s4 => by
      obtain ⟨h1, h2⟩ := st4.wiped own
      rw [ew] at h1 h2
      exact ⟨h1, s4.widen o2 h2⟩
    cases e2 : evCs Φ shs cs nv2 with
    | stuck => rw [e2] at hd; exact hd.elim
    | exc c as nv3 => rw [e2] at hd; exact hd.elim
    | ok b nv3 =>
      rw [e2] at hd
      simp only [Rs.bind] at hd
      refine hc M H σ2 nv2 _ st2 ?_
      rw [e2]
      intro M3 H3 s3 st3
      cases b with
      | false =>
        rw [if_neg (by decide)] at hd ⊢
        obtain ⟨w1, w2⟩ := fin st3 s3
        obtain ⟨k1, k2, k3⟩ := kept_at w2 hD hDn hDo
        exact hN _ M3 H3 w1 w2 (DoneX.later hd w2.hide) k2 k3 (fun i s h => wipeN_out h) k1 (Reps.mono w2.mm hDr)
      | true =>
        rw [if_pos rfl] at hd ⊢
        refine he M3 H3 σ2 nv3 _ st3 ?_
        cases e3 : evE Φ shs elt nv3 with
        | stuck => rw [e3] at hd; exact hd.elim
        | exc c as nv4 => rw [e3] at hd; exact hd.elim
        | ok rr nv4 =>
          rw [e3] at hd
          simp only [Rs.bind] at hd
          intro v M4 H4 s4 st4 r4
          obtain ⟨M5, st5, rp, s5, _⟩ := freeze st4 r4 s4
          obtain ⟨w1, w2⟩ := fin st5 (s3.trans s5)
          obtain ⟨k1, k2, k3⟩ := kept_at w2 hD hDn hDo
          have hd5 := DoneX.later hd (w2.hide (D0 := D0))
          have lz := hz _ _ _ H4 hd5
          refine ⟨vs, k1, ?_, hS _ v _ M5 H4 w1 w2 hd5 k2 k3 (fun i s h => wipeN_out h) k1 (Reps.mono w2.mm hDr) rp⟩
          rw [← hDr.length, sizeLine_eq]
          exact lz
def blkOk (N : List Str) (sc scope : Scope) (own : List Nat) : Bool := blkC N sc scope (own.map fun i => (N.getD i "", i))
theorem Prim.step {M' H' : Hp} (p : Prim M H M' H') (O : Addr → Prop) : Step M H O M' H' O :=
  ⟨p.mm, fun a o h _ => p.hh _ _ h, fun a h => .inl h, fun a h => (by
    cases q : H a with
    | none => rfl
    | some o => rw [p.hh _ _ q] at h; cases h), fun a o h => (p.mnew a o h).imp id .inr⟩
theorem comp_reads {scope : Scope} {t : T} {k : Ik} {es cs : List E} {elt : E} {own : List Nat} {tg it ex : Expr} {ifs : List Expr}
    (ht : chkT1 C.N (fun x => decide (scope.names.lookup x = some .local)) t tg = true) (hts : ∀ i ∈ t.slots, i ∈ own)
    (hi : SndI C W tg it (itf Φ shs k es)) (hc : SndC (C.blk scope) W0 ifs (evCs Φ shs cs)) (he : SndE (C.blk scope) W0 ex (evE Φ shs elt)) {Q : VK} (st : StR C.K M H σ nv) (hd : DoneE C W M H σ nv (evE Φ shs (.comp t k es cs elt own) nv) Q) :
    tLc (tI C W tg it) (tG (C.blk scope) W0 tg) (tC1 (C.blk scope) W0 ifs) (tE (C.blk scope) W0 ex) own σ H Q := by
  · rw [evE] at hd
    refine hi M H σ nv _ st ?_
    unfold itf
    cases e1 : evOs Φ shs es nv with
    | stuck => rw [e1] at hd; exact hd.elim
    | exc c as nv1 => rw [e1] at hd; exact hd
    | ok os nv1 =>
      rw [e1] at hd
      simp only [Rs.bind] at hd ⊢
      cases e2 : items k os with
      | none => rw [e2] at hd; exact hd.elim
      | some xs =>
        rw [e2] at hd
        simp only [Rs.bind] at hd ⊢
        intro M1 H1 s1 st1 J jok D0 hD0
        have hd := DoneE.later hd s1
        have mD0 : M1 D0 = none := by
          cases q : M1 D0 with
          | none => rfl
          | some o => rw [st1.ext _ _ q] at hD0; cases hD0
        have oD0 : ¬ Own σ nv1 D0 := fun z => by
          obtain ⟨_, vs, h⟩ := st1.own_at z
          rw [hD0] at h; cases h
        -- what the whole is to reach
        let post : List D → Nv → Hp → Hp → Prop := fun ys nv5 M5 H5 => (∀ i s, nv5[i]? = some (some s) → i ∉ own) → Step M1 H1 (Own (wipe σ own) (wipeN nv1 own)) M5 H5 (Own (wipe σ own) nv5) → ∀ vs, H5 D0 = some (.lst vs) → Reps C.K M5 ys vs → M5 D0 = none → ¬ Own (wipe σ own) nv5 D0 → Q (.ref D0) H5
        have hd0 : DoneX (C.blk scope) W0 M1 H1 (wipe σ own) (wipeN nv1 own) (compLoop (turnOf Φ shs t cs elt own) xs [] (wipeN nv1 own)).nox post := by
          have hd' : DoneE C W M1 H1 σ nv1 ((compLoop (turnOf Φ shs t cs elt own) xs [] (wipeN nv1 own)).nox.bind fun ys nv5 => .ok (.own ys) (back nv1 nv5 own)) Q := hd
          cases e3 : compLoop (turnOf Φ shs t cs elt own) xs [] (wipeN nv1 own) with
          | stuck => rw [e3] at hd'; exact hd'
          | exc c as nv5 => rw [e3] at hd'; exact hd'
          | ok ys nv5 =>
            rw [e3] at hd'
            intro M5 H5 s5 st5 out s5' vs h1 h2 h3 h4
            obtain ⟨b1, b2⟩ := st1.backed (vs := own) st5 s5' out
            have oB : ¬ Own σ (back nv1 nv5 own) D0 := fun z => by
              obtain ⟨i, f, ds, h5, h6⟩ := z
              rcases back_some h5 with ⟨hi, h5⟩ | ⟨hi, h5⟩
              · exact oD0 ⟨i, f, ds, h5, h6⟩
              · exact h4 ⟨i, f, ds, h5, by rw [wipe_out' hi]; exact h6⟩
            refine hd' _ M5 H5 ⟨b2.mm, b2.keep, fun a h => ?_, b2.dom, b2.mnew⟩ b1 ⟨D0, vs, rfl, h1, h3, oB, h2⟩
            rcases h with z | z
            · exact b2.own a z
            · have z' : V.ref D0 = V.ref a := z
              injection z' with z'
              subst z'
              exact .inr hD0
        have cext : Same M1 (upd H1 D0 (.lst [])) := fun a o h => by
          rw [upd_ne (ne_of_none h mD0)]
          exact st1.ext _ _ h
        obtain ⟨wst, wown⟩ := st1.wiped own
        have smH : Same H1 (upd H1 D0 (.lst [])) := same_upd hD0
        have st2 : StR C.K M1 (upd H1 D0 (.lst [])) (wipe σ own) (wipeN nv1 own) := wst.grow (Same.refl _) (fun a o h => smH _ _ h) cext (fun a h => (wst.own_at h).1)
        have sD : Step M1 H1 (Own (wipe σ own) (wipeN nv1 own)) M1 (upd H1 D0 (.lst [])) (Own (wipe σ own) (wipeN nv1 own)) :=
          ⟨Same.refl _, fun a o h _ => smH _ _ h, fun a h => .inl h, fun a h => (by
            by_cases ha : a = D0
            · rw [ha]; exact hD0
            · rw [upd_ne ha] at h; exact h), fun a o h => .inl h⟩
        refine ⟨fun i m H' => m = xs.length - i ∧ i ≤ xs.length ∧ ∃ M' nv' acc vs, StR C.K M' H' (wipe σ own) nv' ∧ Step M1 H1 (Own (wipe σ own) (wipeN nv1 own)) M' H' (Own (wipe σ own) nv') ∧ H' D0 = some (.lst vs) ∧ Reps C.K M' acc vs ∧ M' D0 = none ∧ ¬ Own (wipe σ own) nv' D0 ∧
            (∀ i s, nv'[i]? = some (some s) → i ∉ own) ∧ DoneX (C.blk scope) W0 M' (hide D0 H') (wipe σ own) nv' (compLoop (turnOf Φ shs t cs elt own) (xs.drop i) acc nv').nox post,
          ⟨xs.length, by simp, Nat.zero_le _, M1, wipeN nv1 own, [], [], st2, sD, upd_same, by simp [Reps], mD0, fun z => oD0 (wown _ z), fun i s h => wipeN_out h, by
            rw [hide_upd]
            simpa using DoneX.later hd0 (Step.mk (Same.refl _) (fun a o h _ => by rw [hide_ne (ne_of_none h hD0)]; exact h) (fun a h => .inl h) (fun a h => by
              by_cases e : a = D0
              · rw [e]; exact hD0
              · rw [hide_ne e] at h; exact h) (fun a o h => .inl h))⟩, ?_⟩
        rintro i m H' ⟨rfl, hile, M', nv', acc, vs, st', s', hD, hDr, hDn, hDo, out, hdl⟩
        by_cases hlt : i < xs.length
        · right
          have hx : xs[i]? = some xs[i] := List.getElem?_eq_getElem hlt
          obtain ⟨g1, g2⟩ := jok.go M' H' i xs[i] s'.mm st'.ext hx
          refine ⟨g1, fun H'' => ∃ m', m' < xs.length - i ∧ m' = xs.length - (i + 1) ∧ i + 1 ≤ xs.length ∧ ∃ M' nv' acc vs, StR C.K M' H'' (wipe σ own) nv' ∧ Step M1 H1 (Own (wipe σ own) (wipeN nv1 own)) M' H'' (Own (wipe σ own) nv') ∧ H'' D0 = some (.lst vs) ∧ Reps C.K M' acc vs ∧ M' D0 = none ∧ ¬ Own (wipe σ own) nv' D0 ∧
            (∀ i s, nv'[i]? = some (some s) → i ∉ own) ∧ DoneX (C.blk scope) W0 M' (hide D0 H'') (wipe σ own) nv' (compLoop (turnOf Φ shs t cs elt own) (xs.drop (i + 1)) acc nv').nox post, fun H'' h => h, fun x H3 hy => ?_⟩
          obtain ⟨M3, p3, r3⟩ := g2 x H3 hy
          have st3 : StR C.K M3 H3 (wipe σ own) nv' := st'.grow p3.mm (fun a o h => p3.hh _ _ h) p3.ext (fun a h => by
            cases q : M3 a with
            | none => rfl
            | some o =>
              obtain ⟨h1, ws, h2⟩ := st'.own_at h
              rcases p3.mnew a o q with z | z
              · rw [h1] at z; cases z
              · rw [h2] at z; cases z)
          have s3 : Step M' H' (Own (wipe σ own) nv') M3 H3 (Own (wipe σ own) nv') := p3.step _
          have ed : xs.drop i = xs[i] :: xs.drop (i + 1) := (List.drop_eq_getElem_cons hlt)
          rw [ed] at hdl
          obtain ⟨k1, k2, k3⟩ := kept_at s3 hD hDn hDo
          have hdl3 := DoneX.later hdl (s3.hide (D0 := D0))
          simp only [compLoop] at hdl3
          refine turn_ok (o := fun o nv1 => match o with
              | some y => if acc.length < SZ then compLoop (turnOf Φ shs t cs elt own) (xs.drop (i + 1)) (acc ++ [y]) nv1 else .stuck
              | none => compLoop (turnOf Φ shs t cs elt own) (xs.drop (i + 1)) acc nv1) (post := post) (D0 := D0) (acc := acc) (vs := vs) ht hts hc he st3 r3 k1 (Reps.mono p3.mm hDr) k2 k3 hdl3 (fun a nv5 M5 H5 h => ?_) (fun y w nv5 M5 H5 st5 s5 hd5 m5 o5 out5 h5 r5 ry => ?_) (fun nv5 M5 H5 st5 s5 hd5 m5 o5 out5 h5 r5 => ?_)
          · by_cases hz : acc.length < SZ
            · exact hz
            · simp only [if_neg hz] at h; exact h.elim
          · have lz : acc.length < SZ := by
              by_cases hz : acc.length < SZ
              · exact hz
              · simp only [if_neg hz] at hd5; exact hd5.elim
            simp only [if_pos lz] at hd5
            have e5 : Same M5 (upd H5 D0 (.lst (vs ++ [w]))) := fun a o h => by
              rw [upd_ne (ne_of_none h m5)]
              exact st5.ext _ _ h
            have st6 : StR C.K M5 (upd H5 D0 (.lst (vs ++ [w]))) (wipe σ own) nv5 := by
              refine ⟨e5, st5.len, fun j t h => ?_, st5.apart⟩
              obtain ⟨v, e1, e2⟩ := st5.get j t h
              refine ⟨v, e1, ?_⟩
              cases t with
              | val d => exact e2
              | lv f ds =>
                obtain ⟨a, zs, rfl, e3, e4, e6⟩ := e2
                have : a ≠ D0 := fun z => o5 (z ▸ ⟨j, f, ds, h, e1⟩)
                exact ⟨a, zs, rfl, e3, by rw [upd_ne this]; exact e4, e6⟩
            have s6 : Step M1 H1 (Own (wipe σ own) (wipeN nv1 own)) M5 (upd H5 D0 (.lst (vs ++ [w]))) (Own (wipe σ own) nv5) := by
              have s6 := s'.trans (s3.trans s5)
              exact ⟨s6.mm, fun a o h n => by rw [upd_ne (ne_of_none h hD0)]; exact s6.keep a o h n, s6.own, fun a h => (by
                by_cases ha : a = D0
                · rw [ha]; exact hD0
                · rw [upd_ne ha] at h; exact s6.dom a h), s6.mnew⟩
            refine ⟨xs.length - (i + 1), by omega, rfl, hlt, M5, nv5, acc ++ [y], vs ++ [w], st6, s6, upd_same, r5.append (Reps.one ry), m5, o5, out5, ?_⟩
            rw [hide_upd]
            exact hd5
          · exact ⟨xs.length - (i + 1), by omega, rfl, hlt, M5, nv5, acc, vs, st5, s'.trans (s3.trans s5), h5, r5, m5, o5, out5, hd5⟩
        · have ei : i = xs.length := by omega
          subst ei
          left
          refine ⟨jok.stop M' H' s'.mm st'.ext, ?_⟩
          rw [List.drop_length] at hdl
          exact hdl M' H' Step.show st' out s' vs hD hDr hDn hDo
theorem snd_comp {scope : Scope} {t : T} {k : Ik} {es cs : List E} {elt : E} {own : List Nat} {tg it ex : Expr} {ifs : List Expr} {pos : Pos}
    (ok : blkOk C.N C.sc scope own = true) (ht : chkT1 C.N (fun x => decide (scope.names.lookup x = some .local)) t tg = true) (hts : ∀ i ∈ t.slots, i ∈ own) (ps : plainSet it = true)
    (hi : SndI C W tg it (itf Φ shs k es)) (hc : SndC (C.blk scope) W0 ifs (evCs Φ shs cs)) (he : SndE (C.blk scope) W0 ex (evE Φ shs elt)) :
    SndE C W (.ListComp ex [⟨tg, it, ifs, 0⟩] scope pos) (evE Φ shs (.comp t k es cs elt own)) := by
  intro M H σ nv Q st hd
  have eo : (own.map fun i => (C.N.getD i "", i)).map (·.2) = own := by
    rw [List.map_map]
    exact List.map_id' own
  refine tE.by (t := tLc (tI C W tg it) (tG (C.blk scope) W0 tg) (tC1 (C.blk scope) W0 ifs) (tE (C.blk scope) W0 ex) own) (fun X hX => ?_) (comp_reads ht hts hi hc he st hd)
  have := pe_lc (X := X) (pos := pos) (own := own.map fun i => (C.N.getD i "", i)) hX.calm hX.nd (PIo hX tg it) (blkOk_by (by rw [hX.N, hX.sc]; exact ok)) (fun s H D cl fp => PGo (hX.blk scope s H D cl fp) tg) (fun s H D cl fp => PTso (hX.blk scope s H D cl fp) ifs) (fun s H D cl fp => PEo (hX.blk scope s H D cl fp) ex)
    (fun x => by cases it <;> first | rfl | (cases ps))
  rw [eo] at this
  exact this
end
end G
namespace G
open PySem PySem.Spec PyProof.Rows L2
section
variable {C : Cfg} {W : WX} {M H M1 H1 : Hp} {σ σ' : L2.St} {nv nv1 : Nv} {Φ : Fn} {shs : Nat → Nat → Shape}
/-! ### calls of own defs -/
theorem slots_get : ∀ {os : List (D ⊕ Nat)} {ss : List Sl} {p : Nat} {s : Sl}, slotsOf nv os = some ss → ss[p]? = some s →
    (∃ d, os[p]? = some (.inl d) ∧ s = .val d) ∨ ∃ i, os[p]? = some (.inr i) ∧ ((∃ d, nv[i]? = some (some (.val d)) ∧ s = .val d) ∨ ∃ f ds, nv[i]? = some (some (.lv f ds)) ∧ s = .lv false ds)
  | [], ss, p, s, h, hs => by
    simp only [slotsOf, Option.some.injEq] at h
    subst h
    simp at hs
  | .inl d :: os, ss, p, s, h, hs => by
    simp only [slotsOf] at h
    cases q : slotsOf nv os with
    | none => rw [q] at h; cases h
    | some ss' =>
      rw [q] at h
      cases h
      cases p with
      | zero => cases hs; exact .inl ⟨d, rfl, rfl⟩
      | succ p =>
        have hs : ss'[p]? = some s := by simpa using hs
        simpa using slots_get q hs
  | .inr i :: os, ss, p, s, h, hs => by
    simp only [slotsOf] at h
    split at h
    · rename_i d e
      cases q : slotsOf nv os with
      | none => rw [q] at h; cases h
      | some ss' =>
        rw [q] at h
        cases h
        cases p with
        | zero => cases hs; exact .inr ⟨i, rfl, .inl ⟨d, e, rfl⟩⟩
        | succ p =>
        have hs : ss'[p]? = some s := by simpa using hs
        simpa using slots_get q hs
    · rename_i f ds e
      cases q : slotsOf nv os with
      | none => rw [q] at h; cases h
      | some ss' =>
        rw [q] at h
        cases h
        cases p with
        | zero => cases hs; exact .inr ⟨i, rfl, .inr ⟨f, ds, e, rfl⟩⟩
        | succ p =>
        have hs : ss'[p]? = some s := by simpa using hs
        simpa using slots_get q hs
    · cases h
theorem slots_len : ∀ {os : List (D ⊕ Nat)} {ss : List Sl}, slotsOf nv os = some ss → ss.length = os.length
  | [], ss, h => by
    simp only [slotsOf, Option.some.injEq] at h
    subst h
    rfl
  | .inl d :: os, ss, h => by
    simp only [slotsOf] at h
    cases q : slotsOf nv os with
    | none => rw [q] at h; cases h
    | some ss' => rw [q] at h; cases h; simp [slots_len q]
  | .inr i :: os, ss, h => by
    simp only [slotsOf] at h
    split at h
    · cases q : slotsOf nv os with
      | none => rw [q] at h; cases h
      | some ss' => rw [q] at h; cases h; simp [slots_len q]
    · cases q : slotsOf nv os with
      | none => rw [q] at h; cases h
      | some ss' => rw [q] at h; cases h; simp [slots_len q]
    · cases h
theorem brws_mem {i : Nat} : ∀ {os : List (D ⊕ Nat)}, i ∈ brws os ↔ ∃ p : Nat, os[p]? = some (Sum.inr i : D ⊕ Nat)
  | [] => by simp [brws]
  | .inl d :: os => by
    simp only [brws]
    rw [brws_mem]
    constructor
    · rintro ⟨p, h⟩; exact ⟨p + 1, by simpa using h⟩
    · rintro ⟨p, h⟩
      cases p with
      | zero => cases h
      | succ p => exact ⟨p, by simpa using h⟩
  | .inr j :: os => by
    simp only [brws, List.mem_cons]
    rw [brws_mem]
    constructor
    · rintro (rfl | ⟨p, h⟩)
      · exact ⟨0, rfl⟩
      · exact ⟨p + 1, by simpa using h⟩
    · rintro ⟨p, h⟩
      cases p with
      | zero => cases h; exact .inl rfl
      | succ p => exact .inr ⟨p, by simpa using h⟩
theorem brws_inj {i : Nat} : ∀ {os : List (D ⊕ Nat)} {p q : Nat}, (brws os).Nodup → os[p]? = some (.inr i) → os[q]? = some (.inr i) → p = q
  | [], _, _, _, h, _ => by simp at h
  | .inl d :: os, p, q, nd, h1, h2 => by
    cases p with
    | zero => cases h1
    | succ p =>
      cases q with
      | zero => cases h2
      | succ q => exact congrArg Nat.succ (brws_inj (os := os) nd (by simpa using h1) (by simpa using h2))
  | .inr j :: os, p, q, nd, h1, h2 => by
    simp only [brws, List.nodup_cons] at nd
    cases p with
    | zero =>
      cases h1
      cases q with
      | zero => rfl
      | succ q => exact absurd (brws_mem.mpr ⟨q, by simpa using h2⟩) nd.1
    | succ p =>
      cases q with
      | zero => cases h2; exact absurd (brws_mem.mpr ⟨p, by simpa using h1⟩) nd.1
      | succ q => exact congrArg Nat.succ (brws_inj (os := os) nd.2 (by simpa using h1) (by simpa using h2))
theorem OpdsR.get {K : PySem.W.Frag} : ∀ {os : List (D ⊕ Nat)} {vs : List V} {p : Nat} {o : D ⊕ Nat}, OpdsR K M σ os vs → os[p]? = some o → ∃ v, vs[p]? = some v ∧ OpdR K M σ o v
  | [], _, _, _, _, h => by simp at h
  | o :: os, vs, p, o', hv, h => by
    obtain ⟨v, vs', rfl, h1, h2⟩ := hv
    cases p with
    | zero => cases h; exact ⟨v, rfl, h1⟩
    | succ p => simpa using OpdsR.get h2 (by simpa using h)
theorem map_some_get {α : Type} {l : List α} {i : Nat} {a : α} : (l.map some)[i]? = some (some a) ↔ l[i]? = some a := by
  rw [List.getElem?_map]
  cases l[i]? <;> simp
theorem StR.args {K : PySem.W.Frag} {os : List (D ⊕ Nat)} {vs : List V} {ss : List Sl} (st : StR K M H σ nv) (h : OpdsR K M σ os vs) (e : slotsOf nv os = some ss) (nd : (brws os).Nodup) :
    StR K M H (vs.map some) (ss.map some) ∧ (∀ a, Own (vs.map some) (ss.map some) a → ∃ i ∈ brws os, ∃ f ds, nv[i]? = some (some (.lv f ds)) ∧ σ[i]? = some (some (.ref a))) := by
  have lv : ∀ {p : Nat} {f : Bool} {ds : List D}, ss[p]? = some (.lv f ds) → ∃ i g, os[p]? = some (.inr i) ∧ nv[i]? = some (some (.lv g ds)) ∧ ∃ v, vs[p]? = some v ∧ σ[i]? = some (some v) := fun {p f ds} hs => by
    rcases slots_get e hs with ⟨d, h1, h2⟩ | ⟨i, h1, ⟨d, h2, h3⟩ | ⟨g, ds', h2, h3⟩⟩
    · cases h2
    · cases h3
    · cases h3
      obtain ⟨v, h4, h5⟩ := h.get h1
      exact ⟨i, g, h1, h2, v, h4, h5⟩
  refine ⟨⟨st.ext, by rw [List.length_map, List.length_map, slots_len e, h.length], fun p s hs => ?_, fun p q f g xs ys v h1 h2 h3 h4 => ?_⟩, fun a ha => ?_⟩
  · rw [map_some_get] at hs
    rcases slots_get e hs with ⟨d, h1, rfl⟩ | ⟨i, h1, ⟨d, h2, rfl⟩ | ⟨f, ds, h2, rfl⟩⟩
    · obtain ⟨v, h4, h5⟩ := h.get h1
      exact ⟨v, map_some_get.mpr h4, h5⟩
    · obtain ⟨v, h4, h5⟩ := h.get h1
      obtain ⟨v', e1, e2⟩ := st.get i _ h2
      have h5 : σ[i]? = some (some v) := h5
      rw [h5] at e1
      cases e1
      exact ⟨v, map_some_get.mpr h4, e2⟩
    · obtain ⟨v, h4, h5⟩ := h.get h1
      obtain ⟨v', e1, e2⟩ := st.get i _ h2
      have h5 : σ[i]? = some (some v) := h5
      rw [h5] at e1
      cases e1
      exact ⟨v, map_some_get.mpr h4, e2⟩
  · rw [map_some_get] at h1 h2 h3 h4
    obtain ⟨i, a1, o1, n1, v1, w1, s1⟩ := lv h1
    obtain ⟨j, a2, o2, n2, v2, w2, s2⟩ := lv h2
    rw [h3] at w1
    rw [h4] at w2
    cases w1
    cases w2
    have : i = j := st.apart i j a1 a2 xs ys v n1 n2 s1 s2
    subst this
    exact brws_inj nd o1 o2
  · obtain ⟨p, f, ds, h1, h2⟩ := ha
    rw [map_some_get] at h1 h2
    obtain ⟨i, g, o1, n1, v1, w1, s1⟩ := lv h1
    rw [h2] at w1
    cases w1
    exact ⟨i, brws_mem.mpr ⟨p, o1⟩, g, ds, n1, s1⟩
theorem put_get : ∀ {os : List (D ⊕ Nat)} {outs : List Sl} {nv2 : Nv}, putBack nv os outs = some nv2 → nv2.length = nv.length ∧ ∀ i s, nv2[i]? = some (some s) →
    (i ∉ brws os ∧ nv[i]? = some (some s)) ∨ (∃ (p : Nat) (f g : Bool) (ds ds0 : List D), os[p]? = some (Sum.inr i : D ⊕ Nat) ∧ nv[i]? = some (some (.lv f ds0)) ∧ outs[p]? = some (.lv g ds) ∧ s = .lv f ds) ∨ ∃ d, nv[i]? = some (some (.val d)) ∧ s = .val d
  | [], outs, nv2, h => by
    simp only [putBack, Option.some.injEq] at h
    subst h
    exact ⟨rfl, fun i s hs => .inl ⟨by simp [brws], hs⟩⟩
  | .inl d :: os, [], nv2, h => by cases h
  | .inr d :: os, [], nv2, h => by cases h
  | .inl d :: os, o :: outs, nv2, h => by
    simp only [putBack] at h
    obtain ⟨l, k⟩ := put_get h
    refine ⟨l, fun i s hs => ?_⟩
    rcases k i s hs with h1 | ⟨p, f, g, ds, ds0, h1, h2, h3, h4⟩ | h1
    · exact .inl h1
    · exact .inr (.inl ⟨p + 1, f, g, ds, ds0, by simpa using h1, h2, by simpa using h3, h4⟩)
    · exact .inr (.inr h1)
  | .inr j :: os, o :: outs, nv2, h => by
    simp only [putBack] at h
    split at h
    · rename_i nv1 f ds0 g ds e1 e2
      cases h
      obtain ⟨l, k⟩ := put_get e1
      refine ⟨by rw [List.length_set]; exact l, fun i s hs => ?_⟩
      by_cases e : j = i
      · subst e
        rw [List.getElem?_set] at hs
        split at hs
        · split at hs
          · cases hs
            exact .inr (.inl ⟨0, f, g, ds, ds0, rfl, e2, rfl, rfl⟩)
          · cases hs
        · contradiction
      · rw [List.getElem?_set_ne e] at hs
        rcases k i s hs with ⟨h1, h2⟩ | ⟨p, f, g, ds, ds0, h1, h2, h3, h4⟩ | h1
        · exact .inl ⟨by simp only [brws, List.mem_cons, not_or]; exact ⟨fun z => e z.symm, h1⟩, h2⟩
        · exact .inr (.inl ⟨p + 1, f, g, ds, ds0, by simpa using h1, h2, by simpa using h3, h4⟩)
        · exact .inr (.inr h1)
    · rename_i nv1 d e1 e2
      cases h
      obtain ⟨l, k⟩ := put_get e1
      refine ⟨l, fun i s hs => ?_⟩
      rcases k i s hs with ⟨h1, h2⟩ | ⟨p, f, g, ds, ds0, h1, h2, h3, h4⟩ | h1
      · by_cases e : j = i
        · subst e
          rw [e2] at h2
          cases h2
          exact .inr (.inr ⟨d, e2, rfl⟩)
        · exact .inl ⟨by simp only [brws, List.mem_cons, not_or]; exact ⟨fun z => e z.symm, h1⟩, h2⟩
      · exact .inr (.inl ⟨p + 1, f, g, ds, ds0, by simpa using h1, h2, by simpa using h3, h4⟩)
      · exact .inr (.inr h1)
    · cases h
end
end G
namespace G
open PySem PySem.Spec PyProof.Rows L2
section
variable {C : Cfg} {W : WX} {M H M1 H1 : Hp} {σ σ' : L2.St} {nv nv1 : Nv} {Φ : Fn} {shs : Nat → Nat → Shape}
theorem StR.called {K : PySem.W.Frag} {os : List (D ⊕ Nat)} {vs : List V} {ss outs : List Sl} {nv2 : Nv} {M' H' : Hp} {Z : Addr → Prop} (st : StR K M H σ nv) (h : OpdsR K M σ os vs) (e : slotsOf nv os = some ss) (nd : (brws os).Nodup)
    (stc : StR K M' H' (vs.map some) (outs.map some)) (sc : Step M H (Own (vs.map some) (ss.map some)) M' H' (fun a => Own (vs.map some) (outs.map some) a ∨ Z a)) (pb : putBack nv os outs = some nv2) :
    StR K M' H' σ nv2 ∧ Step M H (Own σ nv) M' H' (fun a => Own σ nv2 a ∨ Z a) ∧ (∀ a, Z a → ¬ Own (vs.map some) (outs.map some) a → ¬ Own σ nv2 a) := by
  obtain ⟨_, oa⟩ := st.args h e nd
  obtain ⟨pl, pg⟩ := put_get pb
  have oa' : ∀ a, Own (vs.map some) (ss.map some) a → Own σ nv a := fun a ha => by
    obtain ⟨i, _, f, ds, h1, h2⟩ := oa a ha
    exact ⟨i, f, ds, h1, h2⟩
  -- what is not lent stays
  have far : ∀ i f ds a, i ∉ brws os → nv[i]? = some (some (.lv f ds)) → σ[i]? = some (some (.ref a)) → ¬ Own (vs.map some) (ss.map some) a := fun i f ds a hi h1 h2 z => by
    obtain ⟨j, hj, g, ys, h3, h4⟩ := oa a z
    have := st.apart i j f g ds ys _ h1 h3 h2 h4
    exact hi (this ▸ hj)
  have lent : ∀ {p i : Nat} {g : Bool} {ds : List D}, os[p]? = some (.inr i) → outs[p]? = some (.lv g ds) → ∃ a xs, σ[i]? = some (some (.ref a)) ∧ vs[p]? = some (.ref a) ∧ M' a = none ∧ H' a = some (.lst xs) ∧ Reps K M' ds xs := fun {p i g ds} h1 h2 => by
    obtain ⟨v, h3, h4⟩ := h.get h1
    obtain ⟨w, e1, a, xs, rfl, e3, e4, e5⟩ := stc.get p _ (map_some_get.mpr h2)
    rw [map_some_get, h3] at e1
    cases e1
    exact ⟨a, xs, h4, h3, e3, e4, e5⟩
  have sub : ∀ a, Own σ nv2 a → Own σ nv a := fun a ha => by
    obtain ⟨i, f, ds, h1, h2⟩ := ha
    rcases pg i _ h1 with ⟨_, h3⟩ | ⟨p, f', g, ds', ds0, h3, h4, h5, h6⟩ | ⟨d, _, h3⟩
    · exact ⟨i, f, ds, h3, h2⟩
    · exact ⟨i, f', ds0, h4, h2⟩
    · cases h3
  refine ⟨⟨stc.ext, pl.trans st.len, fun i s hs => ?_, fun i j f g xs ys v h1 h2 h3 h4 => ?_⟩, ⟨sc.mm, fun a o h1 h2 => sc.keep a o h1 fun z => h2 (oa' a z), fun a ha => ?_, sc.dom, fun a o h1 => (sc.mnew a o h1).imp id (Or.imp (oa' a) id)⟩, fun a hz hn ho => ?_⟩
  · rcases pg i s hs with ⟨hi, h1⟩ | ⟨p, f, g, ds, ds0, h1, h2, h3, rfl⟩ | ⟨d, h1, rfl⟩
    · obtain ⟨v, e1, e2⟩ := st.get i s h1
      refine ⟨v, e1, ?_⟩
      cases s with
      | val d => exact Rep.mono sc.mm e2
      | lv f ds =>
        obtain ⟨a, xs, rfl, e3, e4, e5⟩ := e2
        have no := far i f ds a hi h1 e1
        obtain ⟨k1, k2, _⟩ := kept_at (s := sc) e4 e3 no
        exact ⟨a, xs, rfl, k2, k1, Reps.mono sc.mm e5⟩
    · obtain ⟨a, xs, e1, _, e3, e4, e5⟩ := lent h1 h3
      exact ⟨_, e1, a, xs, rfl, e3, e4, e5⟩
    · obtain ⟨v, e1, e2⟩ := st.get i _ h1
      exact ⟨v, e1, Rep.mono sc.mm e2⟩
  · rcases pg i _ h1 with ⟨hi, h1⟩ | ⟨p, f', g', ds, ds0, h1, h1', h1'', h5⟩ | ⟨d, _, h1⟩
    · rcases pg j _ h2 with ⟨hj, h2⟩ | ⟨q, f2, g2, es, es0, h2, h2', h2'', h6⟩ | ⟨d, _, h2⟩
      · exact st.apart i j f g xs ys v h1 h2 h3 h4
      · exact st.apart i j f f2 xs es0 v h1 h2' h3 h4
      · cases h2
    · rcases pg j _ h2 with ⟨hj, h2⟩ | ⟨q, f2, g2, es, es0, h2, h2', h2'', h6⟩ | ⟨d, _, h2⟩
      · exact st.apart i j f' g ds0 ys v h1' h2 h3 h4
      · exact st.apart i j f' f2 ds0 es0 v h1' h2' h3 h4
      · cases h2
    · cases h1
  · rcases ha with ha | ha
    · exact .inl (sub a ha)
    · exact (sc.own a (.inr ha)).imp (oa' a) id
  · obtain ⟨i, f, ds, h1, h2⟩ := ho
    rcases pg i _ h1 with ⟨hi, h3⟩ | ⟨p, f', g, ds', ds0, h3, h4, h5, h6⟩ | ⟨d, _, h3⟩
    · rcases sc.own a (.inr hz) with z | z
      · exact far i f ds a hi h3 h2 z
      · obtain ⟨_, xs, h7⟩ := st.own_at ⟨i, f, ds, h3, h2⟩
        rw [z] at h7; cases h7
    · obtain ⟨b, xs, e1, e2, _⟩ := lent h3 h5
      rw [h2] at e1
      cases e1
      exact hn ⟨p, g, ds', map_some_get.mpr h5, map_some_get.mpr e2⟩
    · cases h3
def crRs : Cr → Rs R
  | .ok r outs => .ok r (outs.map some)
  | .exc c as outs => .exc c as (outs.map some)
  | .stuck => .stuck
/-- what the i-th def promises: what the reckoning of it says -/
def spOf (C : Cfg) (Φ : Fn) (i n : Nat) : Sp := fun vs H Q E => vs.length = n ∧ ∃ M ss, StR C.K M H (vs.map some) (ss.map some) ∧ DoneE C (fun cls d _ H => E cls d H) M H (vs.map some) (ss.map some) (crRs (Φ i ss)) Q
structure FnI where
  name : Str
  f : Addr
  fd : FuncData
  ps : List Str
def ShOk (K : PySem.W.Frag) (fd : FuncData) (ps ks : List Str) (np : Nat) (sh : Shape) : Prop := ∃ arrU : List Value → List Value → List Value,
  (∀ (s : Shared) (us ws : List Value), K.In s.heap → us.length = np → ws.length = ks.length → BindsTo s fd ⟨us, ks.zip ws⟩ (ps.zip (arrU us ws))) ∧
  (∀ (M : Hp) (σ : L2.St) (os os' : List (D ⊕ Nat)) (vs zs : List V) (us ws : List Value), us.length = np → ws.length = ks.length → Vals vs us → Vals zs ws → OpdsR K M σ os (vs ++ zs) → arrO sh os = some os' →
    ∃ vs', Vals vs' (arrU us ws) ∧ OpdsR K M σ os' vs' ∧ vs'.length = ps.length)
/-- how a written call comes to its parameters: how many are written by place, the keywords, the places -/
abbrev ShT := Nat → Nat → Option (Nat × List Str × Shape)
def shsOf (T : ShT) : Nat → Nat → Shape := fun i j => match T i j with
  | some (_, _, sh) => sh
  | none => [.inl 1000000]
structure FtOk (C : Cfg) (Φ : Fn) (ft : Nat → Option FnI) (T : ShT) : Prop where
  at_ : ∀ i fi, ft i = some fi → C.mg fi.name = some (.ref fi.f) ∧ PySem.W.keepIn C.K (.ref fi.f) = true ∧ FnOk C.P C.w C.K C.mg C.base (L2.CX C.P C.w) C.k fi.f fi.fd fi.ps (spOf C Φ i fi.ps.length)
  sh : ∀ i fi j np ks sh, ft i = some fi → T i j = some (np, ks, sh) → ShOk C.K fi.fd fi.ps ks np sh
theorem run_call {X : Cx} {f : Addr} {fd : FuncData} {ps : List Str} {sp : Sp} (hX : AtE C W X) (F : FnOk C.P C.w C.K C.mg C.base (L2.CX C.P C.w) C.k f fd ps sp) {pins : List (Addr × Obj)} {s : Shared} {Q : VK} {us : List Value} {kw : List (Str × Value)} {bu : List Value} {vs : List V}
    (I : Inv X pins σ H s) (b : BindsTo s fd ⟨us, kw⟩ (ps.zip bu)) (r : Vals vs bu) (h : sp vs H Q fun cls d H' => W cls d σ H') : wpAny (model X.prog X.w) X.A (call (.ref f) us kw) (EP X pins σ Q) X.xe s := by
  have F' : FnOk X.prog X.w X.K X.mg X.base (L2.CX X.prog X.w) C.k f fd ps sp := by
    rw [hX.prog, hX.w, hX.K, hX.mg, hX.base]; exact F
  refine wpAny_call (codeAny_mono (F'.run X.A X.stack s H ⟨us, kw⟩ bu vs Q _ hX.room I.env0 b r h) fun r s' hq => ?_)
  cases r with
  | error e => exact hX.tk _ _ (XE.of_call I (fun cls d H' w => w) hq)
  | ok fl =>
    cases fl with
    | ret u => exact I.after hq
    | next => exact False.elim hq
    | brk => exact False.elim hq
    | cont => exact False.elim hq
/-- what a call asks -/
theorem callOn_sp {Q : VK} {sh : Shape} {os : List (D ⊕ Nat)} {vs : List V} {i n : Nat} (st : StR C.K M H σ nv) (hd : DoneE C W M H σ nv (callOn Φ i sh os nv) Q) :
    ∃ os', arrO sh os = some os' ∧ ∀ vs', OpdsR C.K M σ os' vs' → vs'.length = n → spOf C Φ i n vs' H Q fun cls d H' => W cls d σ H' := by
  unfold callOn at hd
  cases e1 : arrO sh os with
  | none => rw [e1] at hd; exact hd.elim
  | some os' =>
    rw [e1] at hd
    simp only at hd
    refine ⟨os', rfl, fun vs' hv hl => ⟨hl, ?_⟩⟩
    cases e2 : slotsOf nv os' with
    | none => rw [e2] at hd; exact hd.elim
    | some ss =>
      rw [e2] at hd
      simp only at hd
      by_cases nd : (brws os').Nodup
      · rw [if_pos nd] at hd
        obtain ⟨sta, _⟩ := st.args hv e2 nd
        refine ⟨M, ss, sta, ?_⟩
        cases e3 : Φ i ss with
        | stuck => rw [e3] at hd; exact hd.elim
        | ok r outs =>
          rw [e3] at hd
          simp only at hd
          cases e4 : putBack nv os' outs with
          | none => rw [e4] at hd; exact hd.elim
          | some nv2 =>
            rw [e4] at hd
            intro v M' H' s' st' rr
            obtain ⟨w1, w2, w3⟩ := st.called hv e2 nd st' s' e4
            refine hd v M' H' w2 w1 ?_
            cases r with
            | val d => exact rr
            | own ds =>
              obtain ⟨a, xs, rfl, h1, h2, h3, h4⟩ := rr
              exact ⟨a, xs, rfl, h1, h2, w3 a rfl h3, h4⟩
        | exc c as outs =>
          rw [e3] at hd
          simp only at hd
          cases e4 : putBack nv os' outs with
          | none => rw [e4] at hd; exact hd.elim
          | some nv2 =>
            rw [e4] at hd
            intro cls d M' H' s' st' ex
            obtain ⟨w1, w2, _⟩ := st.called (Z := fun _ => False) hv e2 nd st' (s'.less fun a h => h.elim id False.elim) e4
            exact hd cls d M' H' (w2.less fun a h => .inl h) w1 ex
      · rw [if_neg nd] at hd; exact hd.elim
theorem evOs_append : ∀ (es fs : List E) (nv : Nv), evOs Φ shs (es ++ fs) nv = (evOs Φ shs es nv).bind fun os nv1 => (evOs Φ shs fs nv1).bind fun os2 nv2 => .ok (os ++ os2) nv2
  | [], fs, nv => by
    rw [evOs]
    simp only [List.nil_append, Rs.bind]
    cases evOs Φ shs fs nv <;> rfl
  | e :: es, fs, nv => by
    rw [List.cons_append, evOs, evOs]
    by_cases hb : isBrw e = true
    · cases e <;> first | (cases hb; done) | skip
      simp only [argStep]
      split
      · rw [evOs_append es fs nv]
        cases evOs Φ shs es nv with
        | ok os nv1 =>
          simp only [Rs.bind]
          cases evOs Φ shs fs nv1 <;> rfl
        | exc c as nv1 => rfl
        | stuck => rfl
      · rfl
    · have hb : isBrw e = false := by simpa using hb
      have st : ∀ rest, argStep e nv (evE Φ shs e nv) rest = (evE Φ shs e nv).bind fun r nv1 => (rest nv1).bind fun os nv2 => .ok (.inl r.frz :: os) nv2 := fun rest => by
        cases e <;> first | rfl | (cases hb)
      rw [st, st]
      cases evE Φ shs e nv with
      | ok r nv0 =>
        simp only [Rs.bind]
        rw [evOs_append es fs nv0]
        cases evOs Φ shs es nv0 with
        | ok os nv1 =>
          simp only [Rs.bind]
          cases evOs Φ shs fs nv1 <;> rfl
        | exc c as nv1 => rfl
        | stuck => rfl
      | exc c as nv1 => rfl
      | stuck => rfl
theorem OpdsR.append {K : PySem.W.Frag} : ∀ {os os2 : List (D ⊕ Nat)} {vs vs2 : List V}, OpdsR K M σ os vs → OpdsR K M σ os2 vs2 → OpdsR K M σ (os ++ os2) (vs ++ vs2)
  | [], _, _, _, h, h2 => by
    have h : _ = [] := h
    subst h
    exact h2
  | o :: os, os2, vs, vs2, h, h2 => by
    obtain ⟨v, vs', rfl, e2, e3⟩ := h
    exact ⟨v, vs' ++ vs2, rfl, e2, OpdsR.append e3 h2⟩
/-- f(e, ..) -/
theorem snd_call {ft : Nat → Option FnI} {T : ShT} (F : FtOk C Φ ft T) {i j : Nat} {fi : FnI} {sh : Shape} {x : Expr} {xs : List Expr} {es : List E} {p pos : Pos} (hf : ft i = some fi) (hT : T i j = some ((x :: xs).length, [], sh)) (hg : isGl C.sc fi.name = true)
    (hdb : (fi.name == ("__debug__" : Str)) = false) (ns : noStars (x :: xs) = true) (hel : es.length = (x :: xs).length) (h : SndA C W (x :: xs) (evOs Φ (shsOf T) es)) : SndE C W (.Call (.Name fi.name p) (x :: xs) [] pos) (evE Φ (shsOf T) (.call i j es)) := by
  intro M H σ nv Q st hd X hX pins s I
  obtain ⟨hm, hk, FO⟩ := F.at_ i fi hf
  obtain ⟨arrU, hB, hR⟩ := F.sh i fi j _ _ _ hf hT
  obtain ⟨n1, n2⟩ := noStars_cons ns
  refine wpAny_Call_Name_kw (ld_glob I (gl_of hX hg) (by rw [hX.mg]; exact hm) ?_ hdb)
  refine PySem.W.callWith_K (h₀ := X.base) I.ok.mod.kin (by rw [hX.K]; exact hk) ?_ (star_cons n1 _ _) (plain_back n2)
  have hs : shsOf T i j = sh := by unfold shsOf; rw [hT]
  rw [evE, hs] at hd
  have go : tA C W (x :: xs) σ H fun vs H1 => vs.length = (x :: xs).length ∧ ∃ M1 nv1 os, StR C.K M1 H1 σ nv1 ∧ OpdsR C.K M1 σ os vs ∧ DoneE C W M1 H1 σ nv1 (callOn Φ i sh os nv1) Q := by
    refine h M H σ nv _ st ?_
    cases e1 : evOs Φ (shsOf T) es nv with
    | ok os nv1 =>
      rw [e1] at hd
      intro M1 H1 s1 st1 vs hv
      refine ⟨?_, M1, nv1, os, st1, hv, DoneE.later hd s1⟩
      rw [← hv.length, evOs_len e1, hel]
    | exc c as nv1 => rw [e1] at hd; exact hd
    | stuck => rw [e1] at hd; exact hd.elim
  refine thn (go X hX pos pins s I) fun us s1 ⟨vs, H1, I1, r, hl, M1, nv1, os, st1, hv, hd1⟩ => ⟨I1.kIn, ?_⟩
  obtain ⟨os', ea, hsp⟩ := callOn_sp (vs := vs) (n := fi.ps.length) st1 hd1
  have hul : us.length = (x :: xs).length := by rw [← r.length]; exact hl
  have r0 : Vals ([] : List V) ([] : List Value) := .nil
  obtain ⟨vs', r1, r2, r3⟩ := hR M1 σ os os' vs [] us [] hul rfl r r0 (by rw [List.append_nil]; exact hv) ea
  exact run_call hX FO I1 (hB s1 us [] (by rw [← hX.K]; exact I1.kIn) hul rfl) r1 (hsp vs' r2 r3)
/-- f(e, .., k = e, ..) -/
def kwE (kws : List Keyword) : List Expr := kws.map fun | ⟨_, e, _⟩ => e
def kwN (kws : List Keyword) : List (Option Str) := kws.map fun | ⟨n, _, _⟩ => n
def tKw (C : Cfg) (W : WX) (kws : List Keyword) : TA := fun σ H Q => ∀ X, AtE C W X → ∀ (pos : Pos) pins s, Inv X pins σ H s → wpAny (model X.prog X.w) X.A (evalAll ((backToKw pos (keywordEach kws X.env)).map (·.2))) (AP X pins σ Q) X.xe s
theorem PKo {X : Cx} (h : AtE C W X) (kws : List Keyword) : PK X kws (tKw C W kws) := ⟨fun pos pins s σ H Q I t => t X h pos pins s I⟩
theorem tKw_cons {kw : Keyword} {kws : List Keyword} {Q : List V → Hp → Prop} {σ : L2.St} {H : Hp} {n : Option Str} {e : Expr} {p : Pos} (hk : kw = ⟨n, e, p⟩) (h : tE C W e σ H fun v H1 => tKw C W kws σ H1 fun vs H2 => Q (v :: vs) H2) : tKw C W (kw :: kws) σ H Q := by
  subst hk
  exact fun X hX pos pins s I => (pk_cons (PEo hX e) (PKo hX kws)).run pos pins s σ H Q I h
theorem tKw_nil {Q : List V → Hp → Prop} {σ : L2.St} {H : Hp} (h : Q [] H) : tKw C W [] σ H Q := fun X hX pos pins s I => pk_nil.run pos pins s σ H Q I h
theorem kw_some : ∀ {kws : List Keyword} {ks : List Str} {env : PySem.Env} {pos : Pos}, kwN kws = ks.map some → (backToKw pos (keywordEach kws env)).all (·.1.isSome) = true ∧ (backToKw pos (keywordEach kws env)).filterMap (·.1) = ks ∧ (backToKw pos (keywordEach kws env)).any (·.1.isNone) = false
  | [], [], _, _, _ => ⟨rfl, rfl, rfl⟩
  | [], k :: ks, _, _, h => by cases h
  | ⟨n, e, p⟩ :: kws, [], _, _, h => by cases h
  | ⟨n, e, p⟩ :: kws, k :: ks, env, pos, h => by
    have h1 : n = some k ∧ kwN kws = ks.map some := by simpa [kwN] using h
    obtain ⟨rfl, h2⟩ := h1
    obtain ⟨a, b, c⟩ := kw_some (env := env) (pos := pos) h2
    refine ⟨?_, ?_, ?_⟩
    · show (_ && (backToKw pos (keywordEach kws env)).all (·.1.isSome)) = true
      rw [a]; rfl
    · show k :: (backToKw pos (keywordEach kws env)).filterMap (·.1) = _
      rw [b]
    · show (_ || (backToKw pos (keywordEach kws env)).any (·.1.isNone)) = false
      rw [c]; rfl
/-- an argument list as a list of keywords' values -/
theorem sndA_split : ∀ (kws : List Keyword) {fs : List E} {M H : Hp} {σ : L2.St} {nv : Nv} {Q : List V → Hp → Prop}, (∀ (e : Expr) (f : E) (n : Nat), (kwE kws)[n]? = some e → fs[n]? = some f → isBrw f = false ∧ SndE C W e (evE Φ shs f)) → fs.length = kws.length → StR C.K M H σ nv →
    DoneX C W M H σ nv (evOs Φ shs fs nv) (fun os nv' M' H' => ∀ vs, OpdsR C.K M' σ os vs → Q vs H') → tKw C W kws σ H Q
  | [], [], M, H, σ, nv, Q, hs, hl, st, hd => by
    rw [evOs] at hd
    exact tKw_nil (hd M H (Step.refl _ _ _) st [] rfl)
  | [], f :: fs, _, _, _, _, _, _, hl, _, _ => by cases hl
  | kw :: kws, [], _, _, _, _, _, _, hl, _, _ => by cases hl
  | ⟨n, e, p⟩ :: kws, f :: fs, M, H, σ, nv, Q, hs, hl, st, hd => by
    refine tKw_cons rfl ?_
    obtain ⟨hb, he⟩ := hs e f 0 rfl rfl
    rw [evOs] at hd
    have e1 : argStep f nv (evE Φ shs f nv) (evOs Φ shs fs) = (evE Φ shs f nv).bind fun r nv1 => (evOs Φ shs fs nv1).bind fun os nv2 => .ok (.inl r.frz :: os) nv2 := by
      cases f <;> first | rfl | (cases hb)
    rw [e1] at hd
    refine SndE.then he st hd fun r nv1 v M1 H1 e2 st1 rp s1 hd1 => ?_
    refine sndA_split kws (fs := fs) (fun e f n h1 h2 => hs e f (n + 1) (by simpa [kwE] using h1) (by simpa using h2)) (by simpa using hl) st1 ?_
    cases e3 : evOs Φ shs fs nv1 with
    | ok os nv2 =>
      rw [e3] at hd1
      intro M2 H2 s2 st2 vs hv
      exact hd1 M2 H2 s2 st2 (v :: vs) ⟨v, vs, rfl, Rep.mono s2.mm rp, hv⟩
    | exc c as nv2 => rw [e3] at hd1; exact hd1
    | stuck => rw [e3] at hd1; exact hd1
theorem snd_callK {ft : Nat → Option FnI} {T : ShT} (F : FtOk C Φ ft T) {i j : Nat} {fi : FnI} {sh : Shape} {ks : List Str} {x : Expr} {xs : List Expr} {kws : List Keyword} {es fs : List E} {p pos : Pos} (hf : ft i = some fi) (hT : T i j = some ((x :: xs).length, ks, sh)) (hg : isGl C.sc fi.name = true)
    (hdb : (fi.name == ("__debug__" : Str)) = false) (ns : noStars (x :: xs) = true) (hel : es.length = (x :: xs).length) (hfl : fs.length = kws.length) (hkn : kwN kws = ks.map some) (h : SndA C W (x :: xs) (evOs Φ (shsOf T) es))
    (hk : ∀ (e : Expr) (f : E) (n : Nat), (kwE kws)[n]? = some e → fs[n]? = some f → isBrw f = false ∧ SndE C W e (evE Φ (shsOf T) f)) : SndE C W (.Call (.Name fi.name p) (x :: xs) kws pos) (evE Φ (shsOf T) (.call i j (es ++ fs))) := by
  intro M H σ nv Q st hd X hX pins s I
  obtain ⟨hm, hkp, FO⟩ := F.at_ i fi hf
  obtain ⟨arrU, hB, hR⟩ := F.sh i fi j _ _ _ hf hT
  obtain ⟨n1, n2⟩ := noStars_cons ns
  obtain ⟨ka, kb, kc⟩ := kw_some (env := X.env) (pos := pos) hkn
  refine wpAny_Call_Name_kw (ld_glob I (gl_of hX hg) (by rw [hX.mg]; exact hm) ?_ hdb)
  refine PySem.W.callWith_KW (h₀ := X.base) I.ok.mod.kin (by rw [hX.K]; exact hkp) ka ?_ ?_ (star_cons n1 _ _)
  · have hs : shsOf T i j = sh := by unfold shsOf; rw [hT]
    rw [evE, hs, evOs_append] at hd
    have go : tA C W (x :: xs) σ H fun vs H1 => tKw C W kws σ H1 fun zs H2 => vs.length = (x :: xs).length ∧ zs.length = ks.length ∧ ∃ M1 nv1 os, StR C.K M1 H2 σ nv1 ∧ OpdsR C.K M1 σ os (vs ++ zs) ∧ DoneE C W M1 H2 σ nv1 (callOn Φ i sh os nv1) Q := by
      refine h M H σ nv _ st ?_
      cases e1 : evOs Φ (shsOf T) es nv with
      | ok os nv1 =>
        rw [e1] at hd
        intro M1 H1 s1 st1 vs hv
        have hd := DoneE.later hd s1
        refine sndA_split kws hk hfl st1 ?_
        simp only [Rs.bind] at hd
        cases e2 : evOs Φ (shsOf T) fs nv1 with
        | ok os2 nv2 =>
          rw [e2] at hd
          intro M2 H2 s2 st2 zs hz
          refine ⟨?_, ?_, M2, nv2, os ++ os2, st2, (hv.mono s2.mm).append hz, DoneE.later hd s2⟩
          · rw [← hv.length, evOs_len e1, hel]
          · rw [← hz.length, evOs_len e2, hfl]
            have := congrArg List.length hkn
            simpa [kwN] using this
        | exc c as nv2 => rw [e2] at hd; exact hd
        | stuck => rw [e2] at hd; exact hd.elim
      | exc c as nv1 => rw [e1] at hd; exact hd
      | stuck => rw [e1] at hd; exact hd.elim
    refine thn (go X hX pos pins s I) fun us s1 ⟨vs, H1, I1, r, q1⟩ => ?_
    refine thn (q1 X hX pos pins s1 I1) fun ws s2 ⟨zs, H2, I2, rz, hl, hlz, M1, nv1, os, st1, hv, hd1⟩ => ⟨I2.kIn, ?_⟩
    rw [kb]
    obtain ⟨os', ea, hsp⟩ := callOn_sp (vs := vs ++ zs) (n := fi.ps.length) st1 hd1
    have hul : us.length = (x :: xs).length := by rw [← r.length]; exact hl
    have hwl : ws.length = ks.length := by rw [← rz.length]; exact hlz
    obtain ⟨vs', r1, r2, r3⟩ := hR M1 σ os os' vs zs us ws hul hwl r rz hv ea
    exact run_call hX FO I2 (hB s2 us ws (by rw [← hX.K]; exact I2.kIn) hul hwl) r1 (hsp vs' r2 r3)
  · have := plain_back (env := X.env) (pos := pos) ns
    rw [this, kc]
    rfl
end
end G
namespace G
open PySem PySem.Spec PyProof.Rows L2
/-- no call of super() -/
def plainBase : Expr → Bool
  | .Call _ [] [] _ => false
  | _ => true
/-- the built-in names that are used -/
def bnames : List Str := ["len", "abs", "int", "tuple", "list", "max", "min", "sum", "any", "all", "isinstance", "bool", "str", "range"]
def BltOk (C : Cfg) : Prop := ∀ x ∈ bnames, C.mg x = none
section
variable {C : Cfg} {W : WX} {M H M1 H1 : Hp} {σ σ' : L2.St} {nv nv1 : Nv} {Φ : Fn} {shs : Nat → Nat → Shape}
/-- a part that is an operand -/
abbrev SO (C : Cfg) (W : WX) (Φ : Fn) (shs : Nat → Nat → Shape) (x : Expr) (a : E) : Prop := SndO C W x (fun nv => opd a nv (evE Φ shs a nv))
/-! ### operators -/
section
variable {x y : Expr} {a b : E} {pos : Pos}
theorem s_add (ha : SO C W Φ shs x a) (hb : SO C W Φ shs y b) : SndE C W (.BinOp x .Add y pos) (evE Φ shs (.op2 .add a b)) :=
  snd_op2 (r := fun x y H Q => rI0 (fun i j => .int (i + j)) x y H Q ∨ (∃ i j, x = .str i ∧ y = .str j ∧ i.length + j.length ≤ sizeLine ∧ Q (.str (i ++ j)) H) ∨ rCatA C.K x y H Q ∨ rCat x y H Q) ha hb
    (fun X hX => pe_op (by rw [← hX.K]; exact OpR.or op_add (OpR.or op_add_str (OpR.or op_catA op_cat))) (PEo hX x) (PEo hX y)) ok_add
theorem s_sub (ha : SO C W Φ shs x a) (hb : SO C W Φ shs y b) : SndE C W (.BinOp x .Sub y pos) (evE Φ shs (.op2 .sub a b)) := snd_op2 ha hb (fun X hX => pe_op op_sub (PEo hX x) (PEo hX y)) ok_sub
theorem s_mul (ha : SO C W Φ shs x a) (hb : SO C W Φ shs y b) : SndE C W (.BinOp x .Mult y pos) (evE Φ shs (.op2 .mul a b)) :=
  snd_op2 (r := fun x y H Q => rI CMul (fun i j => .int (i * j)) x y H Q ∨ rRep x y H Q) ha hb (fun X hX => pe_op (OpR.or op_mul op_rep) (PEo hX x) (PEo hX y)) ok_mul
theorem s_fdiv (ha : SO C W Φ shs x a) (hb : SO C W Φ shs y b) : SndE C W (.BinOp x .FloorDiv y pos) (evE Φ shs (.op2 .fdiv a b)) := snd_op2 ha hb (fun X hX => pe_op op_fdiv (PEo hX x) (PEo hX y)) ok_fdiv
theorem s_mod (ha : SO C W Φ shs x a) (hb : SO C W Φ shs y b) : SndE C W (.BinOp x .Mod y pos) (evE Φ shs (.op2 .mod a b)) := snd_op2 ha hb (fun X hX => pe_op op_mod (PEo hX x) (PEo hX y)) ok_mod
theorem s_pow (ha : SO C W Φ shs x a) (hb : SO C W Φ shs y b) : SndE C W (.BinOp x .Pow y pos) (evE Φ shs (.op2 .pow a b)) := snd_op2 ha hb (fun X hX => pe_op op_pow (PEo hX x) (PEo hX y)) ok_pow
theorem s_neg (ha : SO C W Φ shs x a) : SndE C W (.UnaryOp .USub x pos) (evE Φ shs (.op1 .neg a)) := snd_op1 ha (fun X hX => pe_un un_neg (PEo hX x)) ok_neg
/-! ### comparisons, as values and as tests -/
def cmpR (K : PySem.W.Frag) : P2 → V → V → Hp → VK → Prop
  | .eq => rEq | .ne => rNe
  | .lt => rI0 fun i j => .bl (decide (i < j)) | .le => rI0 fun i j => .bl (decide (i ≤ j)) | .gt => rI0 fun i j => .bl (decide (j < i)) | .ge => rI0 fun i j => .bl (decide (j ≤ i))
  | _ => fun _ _ _ _ => False
def cmpO : P2 → Option CmpOp
  | .eq => some .Eq | .ne => some .NotEq | .lt => some .Lt | .le => some .LtE | .gt => some .Gt | .ge => some .GtE | _ => none
theorem cmp_ok {p : P2} {o : CmpOp} (h : cmpO p = some o) {X : Cx} : OpR X (compareOp o) (cmpR C.K p) ∧ Ok2 C.K (cmpR C.K p) (p2 p) ∧ o ≠ .In ∧ o ≠ .NotIn := by
  cases p <;> first | (cases h; done) | (cases h)
  · exact ⟨op_eq, ok_eq, by decide, by decide⟩
  · exact ⟨op_ne, ok_ne, by decide, by decide⟩
  · exact ⟨op_lt, ok_cmp _, by decide, by decide⟩
  · exact ⟨op_le, ok_cmp _, by decide, by decide⟩
  · exact ⟨op_gt, ok_cmp _, by decide, by decide⟩
  · exact ⟨op_ge, ok_cmp _, by decide, by decide⟩
theorem s_cmp {p : P2} {o : CmpOp} (h : cmpO p = some o) (ha : SO C W Φ shs x a) (hb : SO C W Φ shs y b) : SndE C W (.Compare x [o] [y] pos) (evE Φ shs (.op2 p a b)) :=
  snd_op2 ha hb (fun X hX => pe_cmpR (cmp_ok (C := C) h).1 (PEo hX x) (PEo hX y) (nomark y (cmp_ok (C := C) h (X := X)).2.2.1 (cmp_ok (C := C) h (X := X)).2.2.2)) (by
    have : Nonempty Cx ∨ True := .inr trivial
    cases p <;> first | (cases h; done) | (cases h)
    · exact ok_eq
    · exact ok_ne
    · exact ok_cmp _
    · exact ok_cmp _
    · exact ok_cmp _
    · exact ok_cmp _)
theorem t_cmp {p : P2} {o : CmpOp} (h : cmpO p = some o) (ha : SO C W Φ shs x a) (hb : SO C W Φ shs y b) : SndT C W (.Compare x [o] [y] pos) (evE Φ shs (.op2 p a b)) :=
  sndT_cmp ha hb (fun X hX => pt_cmpR (cmp_ok (C := C) h).1 (PEo hX x) (PEo hX y) (nomark y (cmp_ok (C := C) h (X := X)).2.2.1 (cmp_ok (C := C) h (X := X)).2.2.2)) (by
    cases p <;> first | (cases h; done) | (cases h)
    · exact ok_eq
    · exact ok_ne
    · exact ok_cmp _
    · exact ok_cmp _
    · exact ok_cmp _
    · exact ok_cmp _)
theorem s_isN {j : Nat} {p' : Pos} (ha : SO C W Φ shs x a) : SndE C W (.Compare x [.Is] [.Constant .none j p'] pos) (evE Φ shs (.op1 .isN a)) :=
  snd_op1 ha (fun X hX => pe_cmp (pc_isN (PEo hX x)) rfl) ok_isN
theorem s_notN {j : Nat} {p' : Pos} (ha : SO C W Φ shs x a) : SndE C W (.Compare x [.IsNot] [.Constant .none j p'] pos) (evE Φ shs (.op1 .notN a)) :=
  snd_op1 ha (fun X hX => pe_cmp (pc_notN (PEo hX x)) rfl) ok_notN
theorem t_isN {j : Nat} {p' : Pos} (ha : SO C W Φ shs x a) : SndT C W (.Compare x [.Is] [.Constant .none j p'] pos) (evE Φ shs (.op1 .isN a)) :=
  sndT_op1 ha (fun X hX => pt_cmp (pc_isN (PEo hX x)) rfl) ok_isN
theorem t_notN {j : Nat} {p' : Pos} (ha : SO C W Φ shs x a) : SndT C W (.Compare x [.IsNot] [.Constant .none j p'] pos) (evE Φ shs (.op1 .notN a)) :=
  sndT_op1 ha (fun X hX => pt_cmp (pc_notN (PEo hX x)) rfl) ok_notN
/-! ### subscripts -/
def plainIx : Expr → Bool
  | .Slice _ _ _ _ => false
  | _ => true
theorem plainIx_ok {y : Expr} (h : plainIx y = true) : PlainIx y := fun o i => by
  cases y <;> first | rfl | (cases h)
theorem s_ix (hp : plainIx y = true) (ha : SO C W Φ shs x a) (hb : SO C W Φ shs y b) : SndE C W (.Subscript x y pos) (evE Φ shs (.op2 .ix a b)) :=
  snd_op2 (r := rIx C.K) ha hb (fun X hX => by rw [← hX.K]; exact pe_ix ix_seq (PEo hX x) (PEo hX y) (plainIx_ok hp)) ok_ix
/-! ### built-in functions -/
theorem pe_b1 {id : String} {f : Str} {r : List V → Hp → VK → Prop} {p : Pos} (hg : isGl C.sc f = true) (hm : C.mg f = none) (hv : bootBuiltins f = some (.builtin id)) (hn : f ≠ "__name__") (hdb : (f == ("__debug__" : Str)) = false) (ns : noStar x = true)
    (X : Cx) (hX : AtE C W X) (hc : CallR X (.builtin id) r) : PE X (.Call (.Name f p) [x] [] pos) (fun σ H Q => tE C W x σ H fun v H1 => r [v] H1 Q) :=
  pe_callB hc (gl_of hX hg) (by rw [hX.mg]; exact hm) hv (pa_cons (PEo hX x) pa_nil (star_cons ns _ _)) hn hdb (star_cons ns _ _) rfl
theorem pe_b2 {id : String} {f : Str} {r : List V → Hp → VK → Prop} {p : Pos} (hg : isGl C.sc f = true) (hm : C.mg f = none) (hv : bootBuiltins f = some (.builtin id)) (hn : f ≠ "__name__") (hdb : (f == ("__debug__" : Str)) = false) (ns : noStar x = true) (ns2 : noStar y = true)
    (X : Cx) (hX : AtE C W X) (hc : CallR X (.builtin id) r) : PE X (.Call (.Name f p) [x, y] [] pos) (fun σ H Q => tE C W x σ H fun v H1 => tE C W y σ H1 fun u H2 => r [v, u] H2 Q) :=
  pe_callB hc (gl_of hX hg) (by rw [hX.mg]; exact hm) hv (pa_cons (PEo hX x) (pa_cons (PEo hX y) pa_nil (star_cons ns2 _ _)) (star_cons ns _ _)) hn hdb (star_cons ns _ _) (plain_back (by simp [noStars, ns2]))
theorem pe_t1 {T : String} {f : Str} {r : List V → Hp → VK → Prop} {p : Pos} (hg : isGl C.sc f = true) (hm : C.mg f = none) (hv : bootBuiltins f = some (.type T)) (hn : f ≠ "__name__") (hdb : (f == ("__debug__" : Str)) = false) (ns : noStar x = true)
    (X : Cx) (hX : AtE C W X) (hc : CallR X (.type T) r) : PE X (.Call (.Name f p) [x] [] pos) (fun σ H Q => tE C W x σ H fun v H1 => r [v] H1 Q) :=
  pe_callTy hc (gl_of hX hg) (by rw [hX.mg]; exact hm) hv (pa_cons (PEo hX x) pa_nil (star_cons ns _ _)) hn hdb (star_cons ns _ _) rfl
/-- the one-place built-ins by name -/
def b1 : P1 → Option Str
  | .len => some "len" | .abs => some "abs" | .int => some "int" | .tupl => some "tuple" | .list => some "list" | .sum => some "sum" | .any => some "any" | .all => some "all"
  | _ => none
theorem s_b1 {p : P1} {f : Str} {q : Pos} (B : BltOk C) (h : b1 p = some f) (hg : isGl C.sc f = true) (ns : noStar x = true) (ha : SO C W Φ shs x a) : SndE C W (.Call (.Name f q) [x] [] pos) (evE Φ shs (.op1 p a)) := by
  cases p <;> first | (cases h; done) | (cases h)
  · exact snd_op1 (r := fun v H Q => ∃ x n, [v] = [x] ∧ LenV C.K x H n ∧ Q (.int n) H) ha (fun X hX => by
      rw [← hX.K]
      have := pe_b1 (pos := pos) (p := q) hg (B _ (by decide +kernel)) PySem.boot_len (by decide +kernel) (by decide +kernel) ns X hX call_len
      exact this) ok_len
  · exact snd_op1 ha (fun X hX => pe_b1 hg (B _ (by decide +kernel)) boot_abs (by decide +kernel) (by decide +kernel) ns X hX call_abs) ok_abs
  · exact snd_op1 ha (fun X hX => pe_t1 hg (B _ (by decide +kernel)) boot_int (by decide +kernel) (by decide +kernel) ns X hX call_int1) ok_int
  · exact snd_op1 (r := fun v H Q => ∃ p ys, [v] = [V.ref p] ∧ ((SqL C.K H p ys ∧ ∀ l, H l = none → Q (.ref l) (upd H l (.tup ys))) ∨ (SqT C.K H p ys ∧ Q (.ref p) H))) ha (fun X hX => by
      rw [← hX.K]
      have := pe_t1 (pos := pos) (p := q) hg (B _ (by decide +kernel)) (T := "tuple") (by decide +kernel) (by decide +kernel) (by decide +kernel) ns X hX call_tuple_of
      exact this) ok_tupl
  · exact snd_op1 (r := fun v H Q => ∃ p ys, [v] = [V.ref p] ∧ (SqL C.K H p ys ∨ SqT C.K H p ys) ∧ ∀ l, H l = none → Q (.ref l) (upd H l (.lst ys))) ha (fun X hX => by
      rw [← hX.K]
      have := pe_t1 (pos := pos) (p := q) hg (B _ (by decide +kernel)) (T := "list") (by decide +kernel) (by decide +kernel) (by decide +kernel) ns X hX call_list_of
      exact this) ok_list
  · exact snd_op1 (r := fun v H Q => rSum C.K [v] H Q) ha (fun X hX => pe_b1 hg (B _ (by decide +kernel)) (id := "sum") (by decide +kernel) (by decide +kernel) (by decide +kernel) ns X hX (by rw [← hX.K]; exact cr_sum hX.calm)) ok_sum
  · exact snd_op1 (r := fun v H Q => rAny C.K [v] H Q) ha (fun X hX => pe_b1 hg (B _ (by decide +kernel)) (id := "any") (by decide +kernel) (by decide +kernel) (by decide +kernel) ns X hX (by rw [← hX.K]; exact cr_any hX.calm)) ok_any
  · exact snd_op1 (r := fun v H Q => rAll C.K [v] H Q) ha (fun X hX => pe_b1 hg (B _ (by decide +kernel)) (id := "all") (by decide +kernel) (by decide +kernel) (by decide +kernel) ns X hX (by rw [← hX.K]; exact cr_all hX.calm)) ok_all
theorem s_max {q : Pos} (B : BltOk C) (hg : isGl C.sc "max" = true) (ns : noStar x = true) (ns2 : noStar y = true) (ha : SO C W Φ shs x a) (hb : SO C W Φ shs y b) : SndE C W (.Call (.Name "max" q) [x, y] [] pos) (evE Φ shs (.op2 .max a b)) :=
  snd_op2 ha hb (fun X hX => pe_b2 hg (B _ (by decide +kernel)) (id := "max") (by decide +kernel) (by decide +kernel) (by decide +kernel) ns ns2 X hX (call_max2 hX.calm)) ok_max
theorem s_min {q : Pos} (B : BltOk C) (hg : isGl C.sc "min" = true) (ns : noStar x = true) (ns2 : noStar y = true) (ha : SO C W Φ shs x a) (hb : SO C W Φ shs y b) : SndE C W (.Call (.Name "min" q) [x, y] [] pos) (evE Φ shs (.op2 .min a b)) :=
  snd_op2 ha hb (fun X hX => pe_b2 hg (B _ (by decide +kernel)) (id := "min") (by decide +kernel) (by decide +kernel) (by decide +kernel) ns ns2 X hX (call_min2 hX.calm)) ok_min
def isiTy : Nat → Option Str
  | 0 => some "tuple" | 1 => some "bool" | 2 => some "str" | 3 => some "int" | _ => none
theorem s_isi {t : Nat} {f : Str} {q q2 : Pos} (B : BltOk C) (h : isiTy t = some f) (hg : isGl C.sc "isinstance" = true) (hg2 : isGl C.sc f = true) (ns : noStar x = true) (ha : SO C W Φ shs x a) : SndE C W (.Call (.Name "isinstance" q) [x, .Name f q2] [] pos) (evE Φ shs (.op1 (.isi t) a)) := by
  have go : ∀ (f : Str) (T : String), isGl C.sc f = true → C.mg f = none → bootBuiltins f = some (.type T) → f ≠ "__name__" → (f == ("__debug__" : Str)) = false → isiName t = T → t < 4 → SndE C W (.Call (.Name "isinstance" q) [x, .Name f q2] [] pos) (evE Φ shs (.op1 (.isi t) a)) :=
    fun f T hg2 hm hv hn hdb hT ht => snd_op1 (r := fun v H Q => rIsi C.K [v, .ty (isiName t)] H Q) ha (fun X hX => by
      rw [← hX.K]
      refine pe_callB (r := rIsi X.K) call_isi (gl_of hX hg) (by rw [hX.mg]; exact B _ (by decide +kernel)) (by decide +kernel) (pa_cons (PEo hX x) (pa_cons (pe_bltn (v := .ty (isiName t)) (gl_of hX hg2) (by rw [hX.mg]; exact hm) hv (by rw [hT]; rfl) hn hdb) pa_nil rfl) (star_cons ns _ _)) (by decide +kernel) (by decide +kernel) (star_cons ns _ _) rfl) (ok_isi t ht)
  rcases t with _ | _ | _ | _ | t
  · cases h; exact go _ "tuple" hg2 (B _ (by decide +kernel)) (by decide +kernel) (by decide +kernel) (by decide +kernel) rfl (by decide)
  · cases h; exact go _ "bool" hg2 (B _ (by decide +kernel)) (by decide +kernel) (by decide +kernel) (by decide +kernel) rfl (by decide)
  · cases h; exact go _ "str" hg2 (B _ (by decide +kernel)) (by decide +kernel) (by decide +kernel) (by decide +kernel) rfl (by decide)
  · cases h; exact go _ "int" hg2 (B _ (by decide +kernel)) (by decide +kernel) (by decide +kernel) (by decide +kernel) rfl (by decide)
  · cases h
/-! ### in -/
theorem flat_rep {K : PySem.W.Frag} {M : Hp} {d : D} {v : V} (f : flatD d = true) (r : Rep K M d v) : flatV v = true := by
  cases d <;> first | (cases f; done) | (simp only [Rep] at r; subst r; rfl)
theorem eqF_rep {K : PySem.W.Frag} {M : Hp} {d e : D} {v u : V} (f : flatD d = true) (g : flatD e = true) (r : Rep K M d v) (q : Rep K M e u) : eqV v u = eqF d e := by
  cases d <;> first | (cases f; done) | skip
  all_goals cases e <;> first | (cases g; done) | (simp only [Rep] at r q; subst r q; rfl)
theorem flats_rep {K : PySem.W.Frag} {M : Hp} : ∀ {ds : List D} {vs : List V}, ds.all flatD = true → Reps K M ds vs → vs.all flatV = true
  | [], _, _, h => by simp only [Reps] at h; subst h; rfl
  | d :: ds, _, f, h => by
    simp only [Reps] at h
    obtain ⟨v, vs', rfl, h1, h2⟩ := h
    rw [List.all_cons, Bool.and_eq_true] at f ⊢
    exact ⟨flat_rep f.1 h1, flats_rep f.2 h2⟩
theorem any_rep {K : PySem.W.Frag} {M : Hp} {e : D} {u : V} (g : flatD e = true) (q : Rep K M e u) : ∀ {ds : List D} {vs : List V}, ds.all flatD = true → Reps K M ds vs → inV u vs = ds.any fun z => eqF z e
  | [], _, _, h => by simp only [Reps] at h; subst h; rfl
  | d :: ds, _, f, h => by
    simp only [Reps] at h
    obtain ⟨v, vs', rfl, h1, h2⟩ := h
    rw [List.all_cons, Bool.and_eq_true] at f
    have ih := any_rep g q f.2 h2
    unfold inV at ih ⊢
    rw [List.any_cons, List.any_cons, eqF_rep f.1 g h1 q, ih]
theorem count_rep {K : PySem.W.Frag} {M : Hp} {e : D} {u : V} (g : flatD e = true) (q : Rep K M e u) : ∀ {ds : List D} {vs : List V}, ds.all flatD = true → Reps K M ds vs → vs.countP (fun y => eqV y u) = ds.countP fun z => eqF z e
  | [], _, _, h => by simp only [Reps] at h; subst h; rfl
  | d :: ds, _, f, h => by
    simp only [Reps] at h
    obtain ⟨v, vs', rfl, h1, h2⟩ := h
    rw [List.all_cons, Bool.and_eq_true] at f
    rw [List.countP_cons, List.countP_cons, count_rep g q f.2 h2, eqF_rep f.1 g h1 q]
theorem top_flat {K : PySem.W.Frag} {d : D} {v : V} (f : flatD d = true) (r : RepT K M H d v) : Rep K M d v := by
  cases d <;> first | (cases f; done) | (simpa only [RepT, Rep] using r)
theorem ok_in (neg : Bool) : Ok2 C.K (rIn C.K neg) (pIn neg) := by
  intro M H d e v u res Q sm rd re q k
  cases e <;> simp only [pIn] at q <;> try (cases q; done)
  all_goals
    split at q <;> try (cases q; done)
    rename_i xs hz
    rw [Bool.and_eq_true] at hz
    have rd := top_flat hz.1 rd
    obtain ⟨a, vs, rfl, h1, h2⟩ := re
    cases q
  · refine ⟨a, vs, rfl, .inr (SqT.up sm h1), flat_rep hz.1 rd, flats_rep hz.2 h2, ?_⟩
    rw [any_rep hz.1 rd hz.2 h2]
    exact PR.val0 sm k (by simp [Rep])
  · refine ⟨a, vs, rfl, .inl (SqL.of h1), flat_rep hz.1 rd, flats_rep hz.2 h2, ?_⟩
    rw [any_rep hz.1 rd hz.2 h2]
    exact PR.val0 sm k (by simp [Rep])
theorem s_in (ha : SO C W Φ shs x a) (hb : SO C W Φ shs y b) : SndE C W (.Compare x [.In] [y] pos) (evE Φ shs (.op2 .inn a b)) ∨ plainSet y = false := by
  by_cases hp : plainSet y = true
  · exact .inl (snd_op2 (r := rIn C.K false) ha hb (fun X hX => by rw [← hX.K]; exact pe_cmpR op_in_seq (PEo hX x) (PEo hX y) (by cases y <;> first | rfl | (cases hp))) (ok_in false))
  · exact .inr (by simpa using hp)
theorem s_inn (hp : plainSet y = true) (ha : SO C W Φ shs x a) (hb : SO C W Φ shs y b) : SndE C W (.Compare x [.In] [y] pos) (evE Φ shs (.op2 .inn a b)) :=
  snd_op2 (r := rIn C.K false) ha hb (fun X hX => by rw [← hX.K]; exact pe_cmpR op_in_seq (PEo hX x) (PEo hX y) (by cases y <;> first | rfl | (cases hp))) (ok_in false)
theorem s_nin (hp : plainSet y = true) (ha : SO C W Φ shs x a) (hb : SO C W Φ shs y b) : SndE C W (.Compare x [.NotIn] [y] pos) (evE Φ shs (.op2 .nin a b)) :=
  snd_op2 (r := rIn C.K true) ha hb (fun X hX => by rw [← hX.K]; exact pe_cmpR op_notIn_seq (PEo hX x) (PEo hX y) (by cases y <;> first | rfl | (cases hp))) (ok_in true)
theorem t_inn (hp : plainSet y = true) (ha : SO C W Φ shs x a) (hb : SO C W Φ shs y b) : SndT C W (.Compare x [.In] [y] pos) (evE Φ shs (.op2 .inn a b)) :=
  sndT_cmp (r := rIn C.K false) ha hb (fun X hX => by rw [← hX.K]; exact pt_cmpR op_in_seq (PEo hX x) (PEo hX y) (by cases y <;> first | rfl | (cases hp))) (ok_in false)
theorem t_nin (hp : plainSet y = true) (ha : SO C W Φ shs x a) (hb : SO C W Φ shs y b) : SndT C W (.Compare x [.NotIn] [y] pos) (evE Φ shs (.op2 .nin a b)) :=
  sndT_cmp (r := rIn C.K true) ha hb (fun X hX => by rw [← hX.K]; exact pt_cmpR op_notIn_seq (PEo hX x) (PEo hX y) (by cases y <;> first | rfl | (cases hp))) (ok_in true)
/-! ### methods that read -/
def rCount (K : PySem.W.Frag) : V → List V → Hp → VK → Prop := fun x xs H Q => ∃ (p : Addr) (ys : List V) (y : V), x = .ref p ∧ xs = [y] ∧ SqL K H p ys ∧ flatV y = true ∧ ys.all flatV = true ∧ Q (.int (ys.countP fun z => eqV z y : Nat)) H
theorem countP_eqU {x : V} : ∀ {xs : List V} {us : List Value}, Vals xs us → xs.all flatV = true → us.countP (eqU x) = xs.countP fun y => eqV y x
  | _, _, .nil, _ => rfl
  | y :: xs, u :: us, .cons r t, f => by
    rw [List.all_cons, Bool.and_eq_true] at f
    rw [List.countP_cons, List.countP_cons, eqU_of r f.1, countP_eqU t f.2]
theorem mt_count' {X : Cx} : MtR X "list.count" (rCount X.K) := by
  intro pins s σ H x xs v us Q I rx rxs h
  obtain ⟨p, ys, y, rfl, rfl, hs, fy, fys, q⟩ := h
  cases rx
  obtain ⟨u, rfl, ru⟩ := rxs.one
  obtain ⟨its, rv, ⟨⟨cls, dd, data, sl⟩, n, ho, hc, hdn, hd⟩, hlen⟩ := I.list hs
  simp only at hc hd
  subst hc hd
  refine call_meets PySem.F.slot_list_count ⟨_, ho, rfl⟩ PySem.F.entry_list_count (PySem.F.args_list_count_2 _ _)
    (SeqAt.list_countAt p its.toArray n dd sl u (eqU y)) ⟨ho, fun w hw => mem_eqAt ru fy rv fys w (by simpa using hw), ?_⟩
  refine ⟨.int (ys.countP fun z => eqV z y : Nat), H, I.tok _, ⟨s.toks, ?_⟩, q⟩
  show Value.int ((its.toArray.toList.countP (eqU y) : Nat) : Int) s.toks = _
  rw [show its.toArray.toList = its by simp, countP_eqU rv fys]
theorem snd_mop {whole : Expr} {p : Pm} {T : String} {r : V → List V → Hp → VK → Prop} (ho : SO C W Φ shs x a) (ho2 : SO C W Φ shs y b)
    (pe : ∀ X, AtE C W X → PE X whole (fun σ H Q => tE C W x σ H fun v H1 => tyV C.K T v H1 ∧ tE C W y σ H1 fun u H2 => r v [u] H2 Q)) (ty : ∀ M H d v, Same M H → recv p d = true → RepT C.K M H d v → tyV C.K T v H)
    (ok : Ok2 C.K (fun v u => r v [u]) (pm p)) : SndE C W whole (evE Φ shs (.mop p a b)) := by
  intro M H σ nv Q st hd
  refine tE.by pe ?_
  rw [evE] at hd
  refine SndO.then ho st hd fun o nv1 v M1 H1 e1 st1 ov s1 hd1 => ?_
  cases l0 : look nv1 o with
  | none => rw [l0] at hd1; exact hd1.elim
  | some d0 =>
    rw [l0] at hd1
    simp only at hd1
    by_cases hr : recv p d0 = true
    · rw [if_pos hr] at hd1
      refine ⟨ty M1 H1 d0 v st1.ext hr (look_ok st1 ov l0), ?_⟩
      refine SndO.then ho2 st1 hd1 fun o2 nv2 u M2 H2 e2 st2 ou s2 hd2 => ?_
      have ov2 := OpdR.mono s2.mm ov
      cases l : look nv2 o with
      | none => rw [l] at hd2; exact hd2.elim
      | some d =>
        cases l2 : look nv2 o2 with
        | none => rw [l, l2] at hd2; exact hd2.elim
        | some e =>
          rw [l, l2] at hd2
          have hd3 : DoneE C W M2 H2 σ nv2 (Rs.of (pm p d e) nv2) Q := hd2
          cases q : pm p d e with
          | none => rw [q] at hd3; exact hd3.elim
          | some res =>
            rw [q] at hd3
            exact ok M2 H2 d e v u res Q st2.ext (look_ok st2 ov2 l) (look_ok st2 ou l2) q fun v' M' H' p' h' => prim_done hd3 st2 p' h'
    · rw [if_neg hr] at hd1; exact hd1.elim
theorem base_of (x : Expr) (f : Str) (env : PySem.Env) (h : plainBase x = true) : attributeBase x f env (eval x env) = eval x env := by
  cases x with
  | Call g as ks p =>
    cases as with
    | cons a as => cases g <;> rfl
    | nil =>
      cases ks with
      | cons k ks => cases g <;> rfl
      | nil => cases h
  | _ => rfl
theorem pe_m {T id : String} {f : Str} {r : V → List V → Hp → VK → Prop} {apos : Pos} (pa : PlainAttrs T) (slot : Slot T f id) (hty : typeOf (.builtin id) = pure (.type "method_descriptor")) (hl : (apos.endLine == pos.line) = true) (ns : noStar y = true)
    (hb : ∀ env, attributeBase x f env (eval x env) = eval x env) (X : Cx) (hX : AtE C W X) (hm : MtR X id r) : PE X (.Call (.Attribute x f apos) [y] [] pos) (fun σ H Q => tE C W x σ H fun v H1 => tyV C.K T v H1 ∧ tE C W y σ H1 fun u H2 => r v [u] H2 Q) := by
  rw [← hX.K]
  refine pe_bm pa slot hty hm (PEo hX x) (pa_cons (PEo hX y) pa_nil (star_cons ns _ _)) (hb _) ?_ hl (star_cons ns _ _) rfl
  rw [star_cons ns]
  rfl
theorem s_count {apos : Pos} (hl : (apos.endLine == pos.line) = true) (ns : noStar y = true) (hb : plainBase x = true) (ha : SO C W Φ shs x a) (hy : SO C W Φ shs y b) : SndE C W (.Call (.Attribute x "count" apos) [y] [] pos) (evE Φ shs (.mop .count a b)) := by
  refine snd_mop (T := "list") (r := rCount C.K) ha hy (fun X hX => pe_m PySem.F.plainAttrs_list PySem.F.slot_list_count PySem.F.type_list_count hl ns (fun env => base_of x _ env hb) X hX (by rw [← hX.K]; exact mt_count')) (fun M H d v sm hr rd => ?_) ?_
  · cases d <;> first | (cases hr; done) | skip
    obtain ⟨p, vs, rfl, h1, h2⟩ := rd
    exact .inl ⟨rfl, vs, SqL.of h1⟩
  · intro M H d e v u res Q sm rd re q k
    cases d <;> simp only [pm, pCount] at q <;> try (cases q; done)
    split at q <;> try (cases q; done)
    rename_i xs hz
    rw [Bool.and_eq_true] at hz
    obtain ⟨p, vs, rfl, h1, h2⟩ := rd
    have re := top_flat hz.1 re
    cases q
    refine ⟨p, vs, u, rfl, rfl, SqL.of h1, flat_rep hz.1 re, flats_rep hz.2 h2, ?_⟩
    rw [count_rep hz.1 re hz.2 h2]
    exact PR.val0 sm k (by simp [Rep])
theorem mt_sidx {X : Cx} : MtR X "str.index" (fun x xs H Q => ∃ (a b : Str), x = .str a ∧ xs = [.str b] ∧ ∃ k, Txt.index0 a b = some k ∧ Q (.int (k : Nat)) H) := by
  intro pins s σ H x xs v us Q I rx rs h
  obtain ⟨a, b, rfl, rfl, k, hk, hq⟩ := h
  obtain ⟨t, rfl⟩ := rx
  cases rs with
  | cons r1 rs =>
    cases rs
    obtain ⟨u, rfl⟩ := r1
    cases q : Builtin.Str.occurrences a b 0 a.length 1 with
    | nil => unfold Txt.index0 at hk; rw [q] at hk; cases hk
    | cons k' rest =>
      unfold Txt.index0 at hk
      rw [q] at hk
      cases hk
      exact PySem.SC.index q ⟨.int (k : Nat), H, I.tok _, ⟨_, rfl⟩, hq⟩
theorem s_sidx {apos : Pos} (hl : (apos.endLine == pos.line) = true) (ns : noStar y = true) (hb : plainBase x = true) (ha : SO C W Φ shs x a) (hy : SO C W Φ shs y b) : SndE C W (.Call (.Attribute x "index" apos) [y] [] pos) (evE Φ shs (.mop .sidx a b)) := by
  refine snd_mop (T := "str") (r := fun x xs H Q => ∃ (a b : Str), x = .str a ∧ xs = [.str b] ∧ ∃ k, Txt.index0 a b = some k ∧ Q (.int (k : Nat)) H) ha hy (fun X hX => pe_m PySem.F.plainAttrs_str PySem.F.slot_str_index PySem.F.type_str_index hl ns (fun env => base_of x _ env hb) X hX mt_sidx) (fun M H d v sm hr rd => ?_) ?_
  · cases d <;> first | (cases hr; done) | skip
    simp only [RepT] at rd
    subst rd
    rfl
  · intro M H d e v u res Q sm rd re q k
    cases d <;> cases e <;> simp only [pm, pIndex] at q <;> try (cases q; done)
    obtain ⟨n, h1, h2⟩ := bnd q
    subst h2
    simp only [RepT] at rd re
    exact ⟨_, _, rd, by rw [re], n, h1, PR.val0 sm k (by simp [Rep])⟩
theorem s_join {apos : Pos} (hl : (apos.endLine == pos.line) = true) (ns : noStar y = true) (hb : plainBase x = true) (ha : SO C W Φ shs x a) (hy : SO C W Φ shs y b) : SndE C W (.Call (.Attribute x "join" apos) [y] [] pos) (evE Φ shs (.mop .join a b)) := by
  refine snd_mop (T := "str") (r := fun x xs H Q => ∃ a p, ∃ ys : List Str, x = .str a ∧ xs = [.ref p] ∧ (SqL C.K H p (ys.map V.str) ∨ SqT C.K H p (ys.map V.str)) ∧ (ys.map (·.length)).sum + ys.length * a.length ≤ 16777216 ∧ Q (.str (Txt.join a ys)) H) ha hy
    (fun X hX => by
      have := pe_m (x := x) (y := y) (pos := pos) (apos := apos) PySem.F.plainAttrs_str PySem.F.slot_str_join PySem.F.type_str_join hl ns (fun env => base_of x _ env hb) X hX mt_join
      rw [hX.K] at this
      exact this) (fun M H d v sm hr rd => ?_) ?_
  · cases d <;> first | (cases hr; done) | skip
    simp only [RepT] at rd
    subst rd
    rfl
  · intro M H d e v u res Q sm rd re q k
    cases d <;> cases e <;> simp only [pm, pJoin] at q <;> try (cases q; done)
    rename_i z xs
    obtain ⟨p, vs, rfl, h1, h2⟩ := re
    simp only [RepT] at rd
    cases e1 : strsD xs with
    | none => rw [e1] at q; cases q
    | some ys =>
      rw [e1] at q
      simp only at q
      split at q <;> try (cases q; done)
      rename_i hz
      cases q
      have e2 := strsD_ok h2 e1
      subst e2
      exact ⟨z, p, ys, rd, rfl, .inl (SqL.of h1), hz, PR.val0 sm k (by simp [Rep])⟩
end
end
end G
namespace G
open PySem PySem.Spec PyProof.Rows L2
structure AtS (C : Cfg) (W : WX) (X : Cx) : Prop where
  e : AtE C W X
  po : PassesOwn (model X.prog X.w) X.A X.env X.xe
  stk : X.stack = X.env :: X.outer
  fr : X.env.frame = some X.env.locals
  ex : X.ex = []
/-- the protected slots are stored to by no name -/
def PrOk (C : Cfg) : Prop := ∀ x i, C.st x = true → C.N[i]? = some x → i ∉ C.pr
section
variable {C : Cfg} {W : WX} {M H M1 H1 : Hp} {σ σ' : L2.St} {nv nv1 : Nv} {Φ : Fn} {shs : Nat → Nat → Shape}
def tS (C : Cfg) (W : WX) (x : Stmt) : TS := fun D σ H => ∀ X, AtS C W X → ∀ pins s, Inv X pins σ H s → wpAny (model X.prog X.w) X.A (exec x X.env) (SP X pins D) X.xe s
def tB (C : Cfg) (W : WX) (xs : List Stmt) : TS := fun D σ H => ∀ X, AtS C W X → ∀ pins s, Inv X pins σ H s → wpAny (model X.prog X.w) X.A (execs xs X.env) (SP X pins D) X.xe s
theorem PSo {X : Cx} (h : AtS C W X) (x : Stmt) : PS X x (tS C W x) := ⟨fun pins s σ H D I t => t X h pins s I⟩
theorem PSso {X : Cx} (h : AtS C W X) (x : List Stmt) : PSs X x (tB C W x) := ⟨fun pins s σ H D I t => t X h pins s I⟩
theorem tS.by {x : Stmt} {t : TS} {σ : L2.St} {H : Hp} {D : Ends} (ps : ∀ X, AtS C W X → PS X x t) (h : t D σ H) : tS C W x D σ H := fun X hX pins s I => (ps X hX).run pins s σ H D I h
theorem tB.by {x : List Stmt} {t : TS} {σ : L2.St} {H : Hp} {D : Ends} (ps : ∀ X, AtS C W X → PSs X x t) (h : t D σ H) : tB C W x D σ H := fun X hX pins s I => (ps X hX).run pins s σ H D I h
/-- the protected slots stand -/
def Pk (C : Cfg) (σ σ' : L2.St) : Prop := σ'.length = σ.length ∧ ∀ i ∈ C.pr, σ'[i]? = σ[i]?
theorem Pk.refl (C : Cfg) (σ : L2.St) : Pk C σ σ := ⟨rfl, fun _ _ => rfl⟩
theorem Pk.trans {C : Cfg} {a b c : L2.St} (h : Pk C a b) (k : Pk C b c) : Pk C a c := ⟨k.1.trans h.1, fun i hi => (k.2 i hi).trans (h.2 i hi)⟩
def DoneS (C : Cfg) (W : WX) (M H : Hp) (σ : L2.St) (nv : Nv) (res : Rs Fl) (D : Ends) : Prop := match res with
  | .ok (.ret r) nv' => ∀ σ' v M' H', Pk C σ σ' → Step M H (Own σ nv) M' H' (fun a => Own σ' nv' a ∨ ResO r v a) → StR C.K M' H' σ' nv' → RR C.K M' H' (Own σ' nv') r v → D.rt v H'
  | .ok .nx nv' => ∀ σ' M' H', Pk C σ σ' → Step M H (Own σ nv) M' H' (Own σ' nv') → StR C.K M' H' σ' nv' → D.nx σ' H'
  | .ok .brk nv' => ∀ σ' M' H', Pk C σ σ' → Step M H (Own σ nv) M' H' (Own σ' nv') → StR C.K M' H' σ' nv' → D.bk σ' H'
  | .ok .cnt nv' => ∀ σ' M' H', Pk C σ σ' → Step M H (Own σ nv) M' H' (Own σ' nv') → StR C.K M' H' σ' nv' → D.ct σ' H'
  | .exc c as nv' => ∀ σ' cls d M' H', Pk C σ σ' → Step M H (Own σ nv) M' H' (Own σ' nv') → StR C.K M' H' σ' nv' → ExR C c as cls d H' → W cls d σ' H'
  | .stuck => False
theorem DoneS.later {res : Rs Fl} {D : Ends} (h : DoneS C W M H σ nv res D) (s : Step M H (Own σ nv) M1 H1 (Own σ' nv1)) (p : Pk C σ σ') : DoneS C W M1 H1 σ' nv1 res D := by
  cases res with
  | ok f nv' =>
    cases f with
    | ret r => exact fun σ2 v M' H' p' s' => h σ2 v M' H' (p.trans p') (s.trans s')
    | nx => exact fun σ2 M' H' p' s' => h σ2 M' H' (p.trans p') (s.trans s')
    | brk => exact fun σ2 M' H' p' s' => h σ2 M' H' (p.trans p') (s.trans s')
    | cnt => exact fun σ2 M' H' p' s' => h σ2 M' H' (p.trans p') (s.trans s')
  | exc c as nv' => exact fun σ2 cls d M' H' p' s' => h σ2 cls d M' H' (p.trans p') (s.trans s')
  | stuck => exact h
def SndS (C : Cfg) (W : WX) (x : Stmt) (f : Nv → Rs Fl) : Prop := ∀ M H σ nv D, StR C.K M H σ nv → DoneS C W M H σ nv (f nv) D → tS C W x D σ H
def SndB (C : Cfg) (W : WX) (xs : List Stmt) (f : Nv → Rs Fl) : Prop := ∀ M H σ nv D, StR C.K M H σ nv → DoneS C W M H σ nv (f nv) D → tB C W xs D σ H
/-- first an expression (its list may stay own), then what g says -/
theorem SndE.thenS {x : Expr} {f : Nv → Rs R} {g : R → Nv → Rs Fl} {D : Ends} {Q : VK} (h : SndE C W x f) (st : StR C.K M H σ nv) (hd : DoneS C W M H σ nv ((f nv).bind g) D)
    (k : ∀ r nv1 v M1 H1, f nv = .ok r nv1 → StR C.K M1 H1 σ nv1 → RR C.K M1 H1 (Own σ nv1) r v → Step M H (Own σ nv) M1 H1 (fun a => Own σ nv1 a ∨ ResO r v a) → DoneS C W M H σ nv (g r nv1) D → Q v H1) : tE C W x σ H Q := by
  refine h M H σ nv Q st ?_
  cases e : f nv with
  | ok r nv1 =>
    rw [e] at hd
    intro v M' H' s st' rr
    exact k r nv1 v M' H' e st' rr s hd
  | exc c as nv1 => rw [e] at hd; exact fun cls d M' H' s st' ex => hd σ cls d M' H' (Pk.refl C σ) s st' ex
  | stuck => rw [e] at hd; exact hd.elim
/-- .. frozen -/
theorem SndE.thenSF {x : Expr} {f : Nv → Rs R} {g : R → Nv → Rs Fl} {D : Ends} {Q : VK} (h : SndE C W x f) (st : StR C.K M H σ nv) (hd : DoneS C W M H σ nv ((f nv).bind g) D)
    (k : ∀ r nv1 v M1 H1, f nv = .ok r nv1 → StR C.K M1 H1 σ nv1 → Rep C.K M1 r.frz v → DoneS C W M1 H1 σ nv1 (g r nv1) D → Q v H1) : tE C W x σ H Q := by
  refine SndE.thenS h st hd fun r nv1 v M1 H1 e st1 rr s hd1 => ?_
  obtain ⟨M2, st2, rp, s2, _⟩ := freeze st1 rr s
  exact k r nv1 v M2 H1 e st2 rp (hd1.later s2 (Pk.refl C σ))
theorem SndT.thenS {x : Expr} {f : Nv → Rs R} {g' : Bool → Nv → Rs Fl} {D : Ends} {Q : Bool → Hp → Prop} (h : SndT C W x f) (st : StR C.K M H σ nv) (hd : DoneS C W M H σ nv ((tst f nv).bind g') D)
    (k : ∀ b nv1 M1 H1, tst f nv = .ok b nv1 → StR C.K M1 H1 σ nv1 → Step M H (Own σ nv) M1 H1 (Own σ nv1) → DoneS C W M1 H1 σ nv1 (g' b nv1) D → Q b H1) : tT C W x σ H Q := by
  refine h M H σ nv Q st ?_
  cases e : tst f nv with
  | ok b nv1 =>
    rw [e] at hd
    intro M' H' s st'
    exact k b nv1 M' H' e st' s (hd.later s (Pk.refl C σ))
  | exc c as nv1 => rw [e] at hd; exact fun cls d M' H' s st' ex => hd σ cls d M' H' (Pk.refl C σ) s st' ex
  | stuck => rw [e] at hd; exact hd.elim
theorem ife_tst {c : E} {g : Bool → Nv → Rs Fl} (nv : Nv) : ((evE Φ shs c nv).bind fun r nv1 => match r with | .val (.bl true) => g true nv1 | .val (.bl false) => g false nv1 | _ => .stuck) = (tst (evE Φ shs c) nv).bind g := by
  unfold tst
  cases evE Φ shs c nv with
  | ok r nv1 =>
    cases r with
    | val d =>
      cases d with
      | bl k => cases k <;> rfl
      | _ => rfl
    | own ds => rfl
  | exc c as nv1 => rfl
  | stuck => rfl
/-! ### blocks -/
theorem sndB_nil : SndB C W [] (evB Φ shs []) := by
  intro M H σ nv D st hd
  refine tB.by (fun X hX => pss_nil) ?_
  rw [evB] at hd
  exact hd σ M H (Pk.refl C σ) (Step.refl _ _ _) st
theorem sndB_cons {x : Stmt} {xs : List Stmt} {s : S} {ss : List S} (h1 : SndS C W x (evS Φ shs s)) (h2 : SndB C W xs (evB Φ shs ss)) : SndB C W (x :: xs) (evB Φ shs (s :: ss)) := by
  intro M H σ nv D st hd
  refine tB.by (fun X hX => pss_cons (PSo hX x) (PSso hX xs)) ?_
  rw [evB] at hd
  refine h1 M H σ nv _ st ?_
  cases e : evS Φ shs s nv with
  | ok f nv1 =>
    rw [e] at hd
    cases f with
    | nx => exact fun σ' M' H' p' s' st' => h2 M' H' σ' nv1 D st' (hd.later s' p')
    | brk => exact hd
    | cnt => exact hd
    | ret r => exact hd
  | exc c as nv1 => rw [e] at hd; exact hd
  | stuck => rw [e] at hd; exact hd
theorem sndS_pas {pos : Pos} : SndS C W (.Pass pos) (evS Φ shs .pas) := by
  intro M H σ nv D st hd
  refine tS.by (fun X hX => ps_pass) ?_
  rw [evS] at hd
  exact hd σ M H (Pk.refl C σ) (Step.refl _ _ _) st
theorem sndS_brk {pos : Pos} : SndS C W (.Break pos) (evS Φ shs .brk) := by
  intro M H σ nv D st hd
  refine tS.by (fun X hX => ps_break) ?_
  rw [evS] at hd
  exact hd σ M H (Pk.refl C σ) (Step.refl _ _ _) st
theorem sndS_cnt {pos : Pos} : SndS C W (.Continue pos) (evS Φ shs .cnt) := by
  intro M H σ nv D st hd
  refine tS.by (fun X hX => ps_continue) ?_
  rw [evS] at hd
  exact hd σ M H (Pk.refl C σ) (Step.refl _ _ _) st
theorem sndS_doc {x : Str} {j : Nat} {pos pos' : Pos} : SndS C W (.Expr (.Constant (.str x) j pos) pos') (evS Φ shs .pas) := by
  intro M H σ nv D st hd
  refine tS.by (fun X hX => ps_doc) ?_
  rw [evS] at hd
  exact hd σ M H (Pk.refl C σ) (Step.refl _ _ _) st
theorem sndS_retN {pos : Pos} : SndS C W (.Return none pos) (evS Φ shs .retN) := by
  intro M H σ nv D st hd
  refine tS.by (fun X hX => ps_retN) ?_
  rw [evS] at hd
  exact hd σ .non M H (Pk.refl C σ) ((Step.refl _ _ _).less fun a h => h.elim id False.elim) st (by simp [RR, Rep])
theorem sndS_ret {x : Expr} {e : E} {pos : Pos} (h : SndE C W x (evE Φ shs e)) : SndS C W (.Return (some x) pos) (evS Φ shs (.ret e)) := by
  intro M H σ nv D st hd
  refine tS.by (fun X hX => ps_ret (PEo hX.e x)) ?_
  rw [evS] at hd
  exact SndE.thenS h st hd fun r nv1 v M1 H1 e st1 rr s hd1 => hd1 σ v M1 H1 (Pk.refl C σ) s st1 rr
def isComp : Expr → Bool
  | .ListComp _ _ _ _ => true
  | .SetComp _ _ _ _ => true
  | .DictComp _ _ _ _ _ => true
  | _ => false
theorem swaps_no {x : Expr} (h : isComp x = false) (t : Option Expr) (l : Nat) (env : PySem.Env) : swapsWith x t l env = pure false := by
  cases x <;> first | rfl | (cases h)
theorem sndS_expr {x : Expr} {e : E} {pos : Pos} (hc : isComp x = false) (h : SndE C W x (evE Φ shs e)) : SndS C W (.Expr x pos) (evS Φ shs (.expr e)) := by
  intro M H σ nv D st hd
  refine tS.by (fun X hX => ps_expr (PEo hX.e x) (swaps_no hc _ _ _)) ?_
  rw [evS] at hd
  exact SndE.thenSF h st hd fun r nv1 v M1 H1 e st1 rp hd1 => hd1 σ M1 H1 (Pk.refl C σ) (Step.refl _ _ _) st1
theorem sndS_ife {c : Expr} {a b : List Stmt} {e : E} {sa sb : List S} {pos : Pos} (hc : SndT C W c (evE Φ shs e)) (ha : SndB C W a (evB Φ shs sa)) (hb : SndB C W b (evB Φ shs sb)) : SndS C W (.If c a b pos) (evS Φ shs (.ife e sa sb)) := by
  intro M H σ nv D st hd
  refine tS.by (fun X hX => ps_if (PTo hX.e c) (PSso hX a) (PSso hX b)) ?_
  rw [evS] at hd
  have hd : DoneS C W M H σ nv ((tst (evE Φ shs e) nv).bind fun k nv1 => if k = true then evB Φ shs sa nv1 else evB Φ shs sb nv1) D := by
    rw [← ife_tst]
    exact hd
  refine SndT.thenS hc st hd fun k nv1 M1 H1 e1 st1 s1 hd1 => ?_
  cases k with
  | true => rw [if_pos rfl] at hd1 ⊢; exact ha M1 H1 σ nv1 D st1 hd1
  | false => rw [if_neg (by decide)] at hd1 ⊢; exact hb M1 H1 σ nv1 D st1 hd1
/-! ### stores -/
/-- a result is stored -/
theorem StR.putR (st : StR C.K M H σ nv) {i : Nat} {r : R} {v : V} {u : Unit} {nv' : Nv} (e : stSlot i r.slot nv = .ok u nv') (rr : RR C.K M H (Own σ nv) r v) :
    StR C.K M H (σ.set i (some v)) nv' ∧ (∀ a, Own (σ.set i (some v)) nv' a → Own σ nv a ∨ ResO r v a) := by
  cases r with
  | val d =>
    obtain ⟨h1, h2, _⟩ := st.putD (u := u) e rr
    exact ⟨h1, fun a h => .inl (h2 a h)⟩
  | own ds =>
    obtain ⟨a, vs, rfl, e1, e2, e3, e4⟩ := rr
    have e' : nv' = nv.set i (some (.lv true ds)) := by
      unfold stSlot at e
      split at e
      · cases e
      · cases e; rfl
      · cases e
    have hi : i < nv.length := by
      unfold stSlot at e
      split at e
      · cases e
      · rename_i q; exact (List.getElem?_eq_some_iff.mp q).1
      · cases e
    subst e'
    have k : ∀ (j : Nat) (s : Sl), (nv.set i (some (.lv true ds)))[j]? = some (some s) → (i = j ∧ s = .lv true ds) ∨ (i ≠ j ∧ nv[j]? = some (some s)) := fun j s h => by
      by_cases q : i = j
      · subst q
        rw [List.getElem?_set_self hi] at h
        cases h
        exact .inl ⟨rfl, rfl⟩
      · rw [List.getElem?_set_ne q] at h
        exact .inr ⟨q, h⟩
    have hσ : (σ.set i (some (V.ref a)))[i]? = some (some (V.ref a)) := List.getElem?_set_self (by rw [← st.len]; exact hi)
    refine ⟨⟨st.ext, by simp [st.len], fun j s h => ?_, fun j l g g' xs ys w h1 h2 h3 h4 => ?_⟩, fun b h => ?_⟩
    · rcases k j s h with ⟨rfl, rfl⟩ | ⟨q, h⟩
      · exact ⟨_, hσ, a, vs, rfl, e2, e1, e4⟩
      · rw [List.getElem?_set_ne q]
        exact st.get j s h
    · have no : ∀ (m : Nat) (f : Bool) (zs : List G.D), i ≠ m → nv[m]? = some (some (.lv f zs)) → σ[m]? ≠ some (some (V.ref a)) := fun m f zs hm h5 h6 => e3 ⟨m, f, zs, h5, h6⟩
      rcases k j _ h1 with ⟨rfl, _⟩ | ⟨q1, h1⟩ <;> rcases k l _ h2 with ⟨rfl, _⟩ | ⟨q2, h2⟩
      · rfl
      · rw [hσ] at h3
        cases h3
        rw [List.getElem?_set_ne q2] at h4
        exact (no l g' ys q2 h2 h4).elim
      · rw [hσ] at h4
        cases h4
        rw [List.getElem?_set_ne q1] at h3
        exact (no j g xs q1 h1 h3).elim
      · rw [List.getElem?_set_ne q1] at h3
        rw [List.getElem?_set_ne q2] at h4
        exact st.apart j l g g' xs ys w h1 h2 h3 h4
    · obtain ⟨j, f, zs, h1, h2⟩ := h
      rcases k j _ h1 with ⟨rfl, _⟩ | ⟨q, h1⟩
      · rw [hσ] at h2
        exact .inr (by cases h2; rfl)
      · rw [List.getElem?_set_ne q] at h2
        exact .inl ⟨j, f, zs, h1, h2⟩
theorem pk_set {i : Nat} {v : Option V} (h : i ∉ C.pr) : Pk C σ (σ.set i v) := ⟨List.length_set, fun j hj => by
  rw [List.getElem?_set_ne]
  intro z
  subst z
  exact h hj⟩
/-- name = value -/
theorem stored {i : Nat} {r : R} {v : V} {D : Ends} (pr : i ∉ C.pr) (st : StR C.K M1 H1 σ nv1) (rr : RR C.K M1 H1 (Own σ nv1) r v) (s : Step M H (Own σ nv) M1 H1 (fun a => Own σ nv1 a ∨ ResO r v a))
    (hd : DoneS C W M H σ nv ((stSlot i r.slot nv1).bind fun _ nv2 => .ok .nx nv2) D) : D.nx (σ.set i (some v)) H1 := by
  cases e : stSlot i r.slot nv1 with
  | ok u nv2 =>
    rw [e] at hd
    obtain ⟨h1, h2⟩ := st.putR e rr
    exact hd _ M1 H1 (pk_set pr) (s.less h2) h1
  | exc c as nv2 =>
    unfold stSlot at e
    split at e <;> cases e
  | stuck => rw [e] at hd; exact hd.elim
def onLine (scope : Scope) (sc : Scope) (y : Str) (py pos : Pos) : Bool := decide (sc.names.lookup y = some .local) && (py.line == pos.line) && !(scope.names.any fun (n, k) => n == y && (k == .local || k == .cell))
theorem sndS_asgN {i : Nat} {y : Str} {py pos : Pos} {x : Expr} {e : E} (po : PrOk C) (hi : C.N[i]? = some y) (hs : C.st y = true) (hc : isComp x = false) (h : SndE C W x (evE Φ shs e)) :
    SndS C W (.Assign [.Name y py] x pos) (evS Φ shs (.asg (.nm i) e)) := by
  intro M H σ nv D st hd
  refine tS.by (fun X hX => by
    obtain ⟨h1, h2⟩ := hX.e.fn y hs
    exact ps_set hX.e.nd (by rw [hX.e.N]; exact hi) h1 (PEo hX.e x) (swaps_no hc _ _ _) h2) ?_
  rw [evS] at hd
  exact SndE.thenS h st hd fun r nv1 v M1 H1 e1 st1 rr s hd1 => stored (po y i hs hi) st1 rr s hd1
/-- y = [.. for ..], a local on the comprehension's own line -/
theorem sndS_asgC {scope : Scope} {t : T} {k : Ik} {es cs : List E} {elt : E} {own : List Nat} {tg it ex : Expr} {ifs : List Expr} {cpos : Pos} {i : Nat} {y : Str} {py pos : Pos} (po : PrOk C) (hi : C.N[i]? = some y) (hs : C.st y = true)
    (hol : onLine scope C.sc y py cpos = true) (hk : C.sc.kind = .function)
    (ok : blkOk C.N C.sc scope own = true) (ht : chkT1 C.N (fun x => decide (scope.names.lookup x = some .local)) t tg = true) (hts : ∀ i ∈ t.slots, i ∈ own) (ps : plainSet it = true)
    (hit : SndI C W tg it (itf Φ shs k es)) (hc : SndC (C.blk scope) W0 ifs (evCs Φ shs cs)) (he : SndE (C.blk scope) W0 ex (evE Φ shs elt)) :
    SndS C W (.Assign [.Name y py] (.ListComp ex [⟨tg, it, ifs, 0⟩] scope cpos) pos) (evS Φ shs (.asg (.nm i) (.comp t k es cs elt own))) := by
  intro M H σ nv D st hd
  have eo : (own.map fun i => (C.N.getD i "", i)).map (·.2) = own := by
    rw [List.map_map]
    exact List.map_id' own
  unfold onLine at hol
  simp only [Bool.and_eq_true, decide_eq_true_eq, Bool.not_eq_true'] at hol
  refine tS.by (t := tAsg (tLc (tI C W tg it) (tG (C.blk scope) W0 tg) (tC1 (C.blk scope) W0 ifs) (tE (C.blk scope) W0 ex) own) (gName i)) (fun X hX => ?_) ?_
  · have := ps_setLc (X := X) (i := i) (y := y) (py := py) (spos := pos) (pos := cpos) (own := own.map fun i => (C.N.getD i "", i)) hX.e.calm hX.e.nd (by rw [hX.e.N]; exact hi) (by rw [hX.e.sc]; exact hol.1.1)
      (sw_true (by rw [hX.e.sc]; exact hk) (by rw [hX.e.sc]; exact hol.1.1) hol.1.2 hol.2) (PIo hX.e tg it) (blkOk_by (by rw [hX.e.N, hX.e.sc]; exact ok)) (fun s H D cl fp => PGo (hX.e.blk scope s H D cl fp) tg) (fun s H D cl fp => PTso (hX.e.blk scope s H D cl fp) ifs) (fun s H D cl fp => PEo (hX.e.blk scope s H D cl fp) ex)
      (fun x => by cases it <;> first | rfl | (cases ps))
    rw [eo] at this
    exact this
  · rw [evS] at hd
    refine comp_reads ht hts hit hc he st ?_
    cases e : evE Φ shs (.comp t k es cs elt own) nv with
    | ok r nv1 =>
      rw [e] at hd
      intro v M1 H1 s st1 rr
      exact stored (po y i hs hi) st1 rr s hd
    | exc c as nv1 => rw [e] at hd; exact fun cls d M' H' s st' ex => hd σ cls d M' H' (Pk.refl C σ) s st' ex
    | stuck => rw [e] at hd; exact hd.elim
def isTupE : Expr → Bool
  | .Tuple _ _ _ => true
  | .List _ _ => true
  | _ => false
theorem swapped_no {tg x : Expr} (h : isTupE x = false) (env : PySem.Env) : swappedStores [tg] x env = pure none := by
  unfold swappedStores
  cases tg <;> cases x <;> first | rfl | (cases h)
/-- targets in a tuple -/
theorem sndS_asgT {t : T} {tg x : Expr} {pos : Pos} {e : E} (po : PrOk C) (ht : chkT1 C.N C.st t tg = true) (htp : isTupE tg = true) (nst : noStar tg = true) (hx : isTupE x = false) (hc : isComp x = false) (tn : ∀ i, t ≠ .nm i) (hts : ∀ i ∈ t.slots, i ∉ C.pr) (h : SndE C W x (evE Φ shs e)) :
    SndS C W (.Assign [tg] x pos) (evS Φ shs (.asg t e)) := by
  intro M H σ nv D st hd
  refine tS.by (fun X hX => ps_asg (PEo hX.e x) (PGo hX.e tg) (swaps_no hc _ _ _) (swapped_no hx _) (by rw [asg_cons nst]; rfl)) ?_
  rw [evS] at hd
  refine SndE.thenSF h st hd fun r nv1 v M1 H1 e1 st1 rp hd1 => ?_
  have ea : asgR t r nv1 = asgD t r.frz nv1 := by
    cases t <;> first | rfl | exact absurd rfl (tn _)
  rw [ea] at hd1
  rcases asgD_ok t (d := r.frz) (nv := nv1) rfl with e2 | ⟨nv2, e2, ln⟩
  · rw [e2] at hd1; exact hd1.elim
  · rw [e2] at hd1
    refine sndG t (W := W) ht st1 rp e2 fun σ2 st2 o2 q2 => ?_
    refine hd1 σ2 M1 H1 ⟨?_, fun i hi => (q2 i fun z => hts i z hi).1⟩ ((Step.refl _ _ _).less o2) st2
    rw [← st2.len, ln, st1.len]
end
end G
namespace G
open PySem PySem.Spec PyProof.Rows L2
section
variable {C : Cfg} {W : WX} {M H M1 H1 : Hp} {σ σ' : L2.St} {nv nv1 : Nv} {Φ : Fn} {shs : Nat → Nat → Shape}
/-! ### loops -/
theorem sndS_for {t : T} {k : Ik} {es : List E} {ss : List S} {tg it : Expr} {body : List Stmt} {pos : Pos} (po : PrOk C) (ht : chkT1 C.N C.st t tg = true) (hts : ∀ i ∈ t.slots, i ∉ C.pr) (ps : plainSet it = true) (hi : SndI C W tg it (itf Φ shs k es)) (hb : SndB C W body (evB Φ shs ss)) :
    SndS C W (.For tg it body [] pos) (evS Φ shs (.for_ t k es ss)) := by
  intro M H σ nv D st hd
  refine tS.by (fun X hX => ps_for hX.po hX.e.calm (PIo hX.e tg it) (PGo hX.e tg) (PSso hX body) (fun x => by cases it <;> first | rfl | (cases ps))) ?_
  rw [evS] at hd
  refine hi M H σ nv _ st ?_
  unfold itf
  cases e1 : evOs Φ shs es nv with
  | stuck => rw [e1] at hd; exact hd.elim
  | exc c as nv1 => rw [e1] at hd; exact fun cls d M' H' s st' ex => hd σ cls d M' H' (Pk.refl C σ) s st' ex
  | ok os nv1 =>
    rw [e1] at hd
    simp only [Rs.bind] at hd ⊢
    cases e2 : items k os with
    | none => rw [e2] at hd; exact hd.elim
    | some xs =>
      rw [e2] at hd
      simp only at hd ⊢
      intro M1 H1 s1 st1 J jok
      have hd := hd.later s1 (Pk.refl C σ)
      refine ⟨fun i m σ' H' => m = xs.length - i ∧ i ≤ xs.length ∧ ∃ M' nv', Same M1 M' ∧ StR C.K M' H' σ' nv' ∧ DoneS C W M' H' σ' nv' (forLoop (fun d nv => (asgD t d nv).bind fun _ nv2 => evB Φ shs ss nv2) (xs.drop i) nv') D,
        ⟨xs.length, by simp, Nat.zero_le _, M1, nv1, Same.refl _, st1, hd⟩, ?_⟩
      rintro i m σ' H' ⟨rfl, hile, M', nv', mm, st', hdl⟩
      by_cases hlt : i < xs.length
      · right
        have hx : xs[i]? = some xs[i] := List.getElem?_eq_getElem hlt
        obtain ⟨g1, g2⟩ := jok.go M' H' i xs[i] mm st'.ext hx
        refine ⟨g1, fun σ2 H2 => ∃ M' nv', Same M1 M' ∧ StR C.K M' H2 σ2 nv' ∧ DoneS C W M' H2 σ2 nv' (forLoop (fun d nv => (asgD t d nv).bind fun _ nv2 => evB Φ shs ss nv2) (xs.drop (i + 1)) nv') D, fun σ2 H2 h => ⟨xs.length - (i + 1), by omega, rfl, hlt, h⟩, fun x H3 hy => ?_⟩
        obtain ⟨M3, p3, r3⟩ := g2 x H3 hy
        have st3 : StR C.K M3 H3 σ' nv' := st'.grow p3.mm (fun a o h => p3.hh _ _ h) p3.ext (fun a h => by
          cases q : M3 a with
          | none => rfl
          | some o =>
            obtain ⟨h1, ws, h2⟩ := st'.own_at h
            rcases p3.mnew a o q with z | z
            · rw [h1] at z; cases z
            · rw [h2] at z; cases z)
        have s3 : Step M' H' (Own σ' nv') M3 H3 (Own σ' nv') := p3.step _
        have ed : xs.drop i = xs[i] :: xs.drop (i + 1) := (List.drop_eq_getElem_cons hlt)
        rw [ed] at hdl
        have hdl := hdl.later s3 (Pk.refl C σ')
        simp only [forLoop] at hdl
        rcases asgD_ok t (d := xs[i]) (nv := nv') rfl with e3 | ⟨nv2, e3, ln⟩
        · rw [e3] at hdl; exact hdl.elim
        · rw [e3] at hdl
          simp only [Rs.bind] at hdl
          refine sndG t (W := W) ht st3 r3 e3 fun σ4 st4 o4 q4 => ?_
          have hdl := hdl.later (σ' := σ4) (nv1 := nv2) (M1 := M3) (H1 := H3) ((Step.refl _ _ _).less o4) ⟨by rw [← st4.len, ln, st3.len], fun j hj => (q4 j fun z => hts j z hj).1⟩
          refine hb M3 H3 σ4 nv2 _ st4 ?_
          cases e5 : evB Φ shs ss nv2 with
          | stuck => rw [e5] at hdl; exact hdl
          | exc c as nv5 => rw [e5] at hdl; exact hdl
          | ok f nv5 =>
            rw [e5] at hdl
            cases f with
            | ret r => exact hdl
            | nx => exact fun σ5 M5 H5 p5 s5 st5 => ⟨M5, nv5, mm.trans (p3.mm.trans s5.mm), st5, hdl.later s5 p5⟩
            | cnt => exact fun σ5 M5 H5 p5 s5 st5 => ⟨M5, nv5, mm.trans (p3.mm.trans s5.mm), st5, hdl.later s5 p5⟩
            | brk => exact hdl
      · have ei : i = xs.length := by omega
        subst ei
        left
        refine ⟨jok.stop M' H' mm st'.ext, ?_⟩
        rw [List.drop_length] at hdl
        exact hdl σ' M' H' (Pk.refl C σ') (Step.refl _ _ _) st'
theorem sndS_whl {c : Expr} {e : E} {ss : List S} {body : List Stmt} {pos : Pos} (hc : SndT C W c (evE Φ shs e)) (hb : SndB C W body (evB Φ shs ss)) :
    SndS C W (.While c body [] pos) (evS Φ shs (.whl e ss)) := by
  intro M H σ nv D st hd
  refine tS.by (fun X hX => ps_while hX.po (PTo hX.e c) (PSso hX body)) ?_
  rw [evS] at hd
  refine ⟨fun m σ' H' => ∃ M' nv', StR C.K M' H' σ' nv' ∧ DoneS C W M' H' σ' nv' (whlLoop (evE Φ shs e) (evB Φ shs ss) m nv') D, ⟨_, M, nv, st, hd⟩, ?_⟩
  rintro m σ' H' ⟨M', nv', st', hdl⟩
  cases m with
  | zero => exact hdl.elim
  | succ m =>
    rw [whlLoop] at hdl
    have hdl : DoneS C W M' H' σ' nv' ((tst (evE Φ shs e) nv').bind fun k nv1 => if k = true then ((evB Φ shs ss nv1).bind fun f nv2 => match f with
        | .nx => whlLoop (evE Φ shs e) (evB Φ shs ss) m nv2
        | .cnt => whlLoop (evE Φ shs e) (evB Φ shs ss) m nv2
        | .brk => .ok .nx nv2
        | .ret r => .ok (.ret r) nv2) else .ok .nx nv1) D := by
      rw [← ife_tst]
      cases q : evE Φ shs e nv' with
      | ok r nv1 =>
        rw [q] at hdl
        cases r with
        | val d =>
          cases d with
          | bl k => cases k <;> exact hdl
          | _ => exact hdl
        | own ds => exact hdl
      | exc c as nv1 => rw [q] at hdl; exact hdl
      | stuck => rw [q] at hdl; exact hdl
    refine SndT.thenS hc st' hdl fun k nv1 M1 H1 e1 st1 s1 hd1 => ?_
    cases k with
    | false => rw [if_neg (by decide)] at hd1 ⊢; exact hd1 σ' M1 H1 (Pk.refl C σ') (Step.refl _ _ _) st1
    | true =>
      rw [if_pos rfl] at hd1 ⊢
      refine ⟨fun σ2 H2 => ∃ M' nv', StR C.K M' H2 σ2 nv' ∧ DoneS C W M' H2 σ2 nv' (whlLoop (evE Φ shs e) (evB Φ shs ss) m nv') D, fun σ2 H2 h => ⟨m, Nat.lt_succ_self m, h⟩, ?_⟩
      refine hb M1 H1 σ' nv1 _ st1 ?_
      cases e5 : evB Φ shs ss nv1 with
      | stuck => rw [e5] at hd1; exact hd1
      | exc c as nv5 => rw [e5] at hd1; exact hd1
      | ok f nv5 =>
        rw [e5] at hd1
        cases f with
        | ret r => exact hd1
        | nx => exact fun σ5 M5 H5 p5 s5 st5 => ⟨M5, nv5, st5, hd1.later s5 p5⟩
        | cnt => exact fun σ5 M5 H5 p5 s5 st5 => ⟨M5, nv5, st5, hd1.later s5 p5⟩
        | brk => exact hd1
/-! ### changing a list -/
theorem StR.change (st : StR C.K M H σ nv) {i : Nat} {f : Bool} {xs ys : List G.D} {ws : List V} {a : Addr} (q : nv[i]? = some (some (.lv f xs))) (e : σ[i]? = some (some (.ref a))) (r : Reps C.K M ys ws) :
    StR C.K M (upd H a (.lst ws)) σ (nv.set i (some (.lv f ys))) ∧ Step M H (Own σ nv) M (upd H a (.lst ws)) (Own σ (nv.set i (some (.lv f ys)))) := by
  obtain ⟨v, e1, a', vs, rfl, e2, e3, e4⟩ := st.get i _ q
  rw [e] at e1
  cases e1
  have hi : i < nv.length := (List.getElem?_eq_some_iff.mp q).1
  have k : ∀ (j : Nat) (s : Sl), (nv.set i (some (.lv f ys)))[j]? = some (some s) → (i = j ∧ s = .lv f ys) ∨ (i ≠ j ∧ nv[j]? = some (some s)) := fun j s h => by
    by_cases z : i = j
    · subst z
      rw [List.getElem?_set_self hi] at h
      cases h
      exact .inl ⟨rfl, rfl⟩
    · rw [List.getElem?_set_ne z] at h
      exact .inr ⟨z, h⟩
  have cext : Same M (upd H a (.lst ws)) := fun b o h => by
    rw [upd_ne (ne_of_none h e2)]
    exact st.ext _ _ h
  have osub : ∀ b, Own σ (nv.set i (some (.lv f ys))) b → Own σ nv b := fun b h => by
    obtain ⟨j, g, zs, h1, h2⟩ := h
    rcases k j _ h1 with ⟨rfl, z⟩ | ⟨_, h1⟩
    · exact ⟨i, f, xs, q, h2⟩
    · exact ⟨j, g, zs, h1, h2⟩
  refine ⟨⟨cext, by simp [st.len], fun j s h => ?_, fun j l g g' zs zs' w h1 h2 h3 h4 => ?_⟩, Same.refl _, fun b o h n => ?_, fun b h => .inl (osub b h), fun b h => ?_, fun b o h => .inl h⟩
  · rcases k j s h with ⟨rfl, rfl⟩ | ⟨z, h⟩
    · exact ⟨_, e, a, ws, rfl, e2, upd_same, r⟩
    · obtain ⟨w, h1, h2⟩ := st.get j s h
      refine ⟨w, h1, ?_⟩
      cases s with
      | val d => exact h2
      | lv g zs =>
        obtain ⟨b, us, rfl, h3, h4, h5⟩ := h2
        have : b ≠ a := fun y => z (st.apart i j f g xs zs _ q h e (y ▸ h1))
        exact ⟨b, us, rfl, h3, by rw [upd_ne this]; exact h4, h5⟩
  · have get : ∀ (m : Nat) (t : Bool) (us : List G.D), (nv.set i (some (.lv f ys)))[m]? = some (some (.lv t us)) → ∃ us', nv[m]? = some (some (.lv t us')) := fun m t us h => by
      rcases k m _ h with ⟨rfl, z⟩ | ⟨_, h⟩
      · cases z; exact ⟨xs, q⟩
      · exact ⟨us, h⟩
    obtain ⟨_, h1⟩ := get _ _ _ h1
    obtain ⟨_, h2⟩ := get _ _ _ h2
    exact st.apart j l g g' _ _ w h1 h2 h3 h4
  · rw [upd_ne (fun z => by subst z; exact n ⟨i, f, xs, q, e⟩)]
    exact h
  · by_cases z : b = a
    · rw [z, upd_same] at h; cases h
    · rw [upd_ne z] at h; exact h
theorem stIx_ok {i : Nat} {k d : G.D} {nv nv' : Nv} {u : Unit} (h : stIx i k d nv = .ok u nv') : ∃ f xs n j, nv[i]? = some (some (.lv f xs)) ∧ k = .int n ∧ ixN xs.length n = some j ∧ nv' = nv.set i (some (.lv f (xs.set j d))) := by
  unfold stIx at h
  split at h
  · rename_i f xs n q
    split at h
    · rename_i j e
      cases h
      exact ⟨f, xs, n, j, q, rfl, e, rfl⟩
    · cases h
  · cases h
theorem stIx_r {i : Nat} {k d : G.D} {nv : Nv} : stIx i k d nv = .stuck ∨ ∃ nv', stIx i k d nv = .ok () nv' := by
  unfold stIx
  split
  · split
    · exact .inr ⟨_, rfl⟩
    · exact .inl rfl
  · exact .inl rfl
theorem ixN_len {n m : Nat} {i : Int} (h : n = m) : ixN n i = ixN m i := by rw [h]
/-- xs[k] = e -/
theorem sndS_sti {i : Nat} {y z : Expr} {p1 p2 pos : Pos} {n : Str} {ix e : E} (ok : okName C.N C.sc i n = true) (hp : plainIx y = true) (hc : isComp z = false) (hy : SndE C W y (evE Φ shs ix)) (he : SndE C W z (evE Φ shs e)) :
    SndS C W (.Assign [.Subscript (.Name n p1) y p2] z pos) (evS Φ shs (.sti i ix e)) := by
  intro M H σ nv D st hd
  refine tS.by (fun X hX => ps_asg (PEo hX.e z) (pg_sub (pe_name ok X hX.e) (PEo hX.e y) set_list (fun v => by cases y <;> first | rfl | (cases hp))) (swaps_no hc (some (.Subscript (.Name n p1) y p2)) pos.line X.env) (by unfold swappedStores; cases z <;> rfl) (by rfl)) ?_
  rw [evS] at hd
  refine SndE.thenSF he st hd fun r nv1 v M1 H1 e1 st1 rp hd1 => ?_
  split at hd1
  · rename_i f0 xs0 q0
    obtain ⟨w, ew, a, _, rfl, _⟩ := st1.get i _ q0
    refine ⟨_, ew, ?_⟩
    refine SndE.thenS hy st1 hd1 fun k nv2 kv M2 H2 e2 st2' rk' s2' hd2' => ?_
    obtain ⟨M3, st3, rk, s3, _⟩ := freeze st2' rk' s2'
    have hd2 := hd2'.later s3 (Pk.refl C σ)
    rcases stIx_r (i := i) (k := k.frz) (d := r.frz) (nv := nv2) with e3 | ⟨nv3, e3⟩
    · rw [e3] at hd2; exact hd2.elim
    · rw [e3] at hd2
      obtain ⟨f, xs, m, j, q, ek, ej, rfl⟩ := stIx_ok e3
      obtain ⟨w', ew', b, vs, rfl, h1, h2, h3⟩ := st3.get i _ q
      rw [ew] at ew'
      cases ew'
      rw [ek] at rk
      simp only [Rep] at rk
      subst rk
      refine ⟨a, vs, m, j, rfl, rfl, h2, by rw [← h3.length]; exact ej, ?_⟩
      obtain ⟨c1, c2⟩ := st3.change (ys := xs.set j r.frz) q ew (Reps.set j (Rep.mono s3.mm rp) h3)
      exact hd2 σ M3 _ (Pk.refl C σ) c2 c1
  · exact hd1.elim
/-! ### methods that change a list -/
theorem inls_nil {os : List (G.D ⊕ Nat)} {vs : List V} {K : PySem.W.Frag} (h : OpdsR K M σ os vs) {ds : List G.D} (e : inls os = some ds) : Reps K M ds vs := OpdsR.inls h e
theorem snd_mth {m : Mt} {i : Nat} {es : List E} {whole : Expr} {r : V → List V → Hp → VK → Prop} {n : Str} {p1 : Pos} {xs : List Expr} (ok : okName C.N C.sc i n = true) (h : SndA C W xs (evOs Φ shs es))
    (pe : ∀ X, AtE C W X → PE X whole (fun σ H Q => tE C W (.Name n p1) σ H fun v H1 => tyV C.K "list" v H1 ∧ tA C W xs σ H1 fun us H2 => r v us H2 Q))
    (rule : ∀ (M H : Hp) (a : Addr) (ds : List G.D) (vs : List V) (args : List G.D) (us : List V) (y : G.D) (ys : List G.D) (Q : VK), Same M H → M a = none → H a = some (.lst vs) → Reps C.K M ds vs → Reps C.K M args us → mthD m ds args = some (y, ys) →
      (∀ w ws, Rep C.K M y w → Reps C.K M ys ws → Q w (upd H a (.lst ws))) → r (.ref a) us H Q) : SndE C W whole (evE Φ shs (.mth m i es)) := by
  intro M H σ nv Q st hd
  refine tE.by pe ?_
  rw [evE] at hd
  unfold mthOn at hd
  split at hd
  · rename_i f0 xs0 q0
    obtain ⟨w, ew, a, vs0, rfl, e0, e1, _⟩ := st.get i _ q0
    refine tE.by (pe_name ok) ⟨_, ew, .inl ⟨rfl, vs0, SqL.of e1⟩, ?_⟩
    refine h M H σ nv _ st ?_
    cases e2 : evOs Φ shs es nv with
    | stuck => rw [e2] at hd; exact hd.elim
    | exc c as nv1 => rw [e2] at hd; exact hd
    | ok os nv1 =>
      rw [e2] at hd
      intro M1 H1 s1 st1 us hu
      have hd := DoneE.later hd s1
      simp only [Rs.bind] at hd
      split at hd
      · rename_i ds f xs q1 q2
        split at hd
        · rename_i y ys q3
          obtain ⟨w', ew', b, vs, rfl, h1, h2, h3⟩ := st1.get i _ q2
          rw [ew] at ew'
          cases ew'
          refine rule M1 H1 a xs vs ds us y ys Q st1.ext h1 h2 h3 (OpdsR.inls hu q1) q3 fun w ws ry rys => ?_
          obtain ⟨c1, c2⟩ := st1.change (ys := ys) q2 ew rys
          exact hd w M1 _ (c2.less fun a h => h.elim (fun z => z) False.elim) c1 ry
        · exact hd.elim
      · exact hd.elim
  · exact hd.elim
end
end G
namespace G
open PySem PySem.Spec PyProof.Rows L2
section
variable {C : Cfg} {W : WX} {M H M1 H1 : Hp} {σ σ' : L2.St} {nv nv1 : Nv} {Φ : Fn} {shs : Nat → Nat → Shape}
/-! ### methods by name -/
theorem pe_mm {T id : String} {f : Str} {r : V → List V → Hp → VK → Prop} {x y : Expr} {xs : List Expr} {apos pos : Pos} (pa : PlainAttrs T) (slot : Slot T f id) (hty : typeOf (.builtin id) = pure (.type "method_descriptor")) (hl : (apos.endLine == pos.line) = true) (ns : noStars (y :: xs) = true) (few : (y :: xs).length < 30)
    (hb : ∀ env, attributeBase x f env (eval x env) = eval x env) (X : Cx) (hX : AtE C W X) (hm : MtR X id r) : PE X (.Call (.Attribute x f apos) (y :: xs) [] pos) (fun σ H Q => tE C W x σ H fun v H1 => tyV C.K T v H1 ∧ tA C W (y :: xs) σ H1 fun us H2 => r v us H2 Q) := by
  obtain ⟨n1, n2⟩ := noStars_cons ns
  rw [← hX.K]
  refine pe_bm pa slot hty hm (PEo hX x) (PAo hX (y :: xs)) (hb _) ?_ hl (star_cons n1 _ _) (plain_back n2)
  have h1 := few_back (env := X.env) (pos := pos) ns
  rw [h1]
  simp only [Bool.true_and, Bool.and_eq_true, decide_eq_true_eq]
  refine ⟨rfl, ?_⟩
  simp only [List.length_cons, List.length_nil, List.isEmpty_nil, if_true] at few ⊢
  omega
def mtName : Mt → Option Str
  | .app => some "append" | .ext => some "extend" | .popi => some "pop" | _ => none
theorem s_app {i : Nat} {n : Str} {p1 apos pos : Pos} {y : Expr} {xs : List Expr} {es : List E} (ok : okName C.N C.sc i n = true) (hl : (apos.endLine == pos.line) = true) (ns : noStars (y :: xs) = true) (few : (y :: xs).length < 30) (h : SndA C W (y :: xs) (evOs Φ shs es)) :
    SndE C W (.Call (.Attribute (.Name n p1) "append" apos) (y :: xs) [] pos) (evE Φ shs (.mth .app i es)) :=
  snd_mth (r := rAppend) ok h (fun X hX => pe_mm PySem.F.plainAttrs_list PySem.F.slot_list_append PySem.F.type_list_append hl ns few (fun _ => rfl) X hX mt_append) (fun M H a ds vs args us w ws Q sm hM hH hr ha hd k => by
    match args, hd with
    | [y], hd =>
      simp only [mthD] at hd
      split at hd <;> try (cases hd; done)
      rename_i hz
      cases hd
      simp only [Reps] at ha
      obtain ⟨v, us', rfl, h1, rfl⟩ := ha
      refine ⟨a, vs, v, rfl, rfl, hH, ?_, k .non _ (by simp [Rep]) (hr.append (Reps.one h1))⟩
      rw [← hr.length, sizeLine_eq]; exact hz
    | [], hd => cases hd
    | _ :: _ :: _, hd => simp [mthD] at hd)
theorem s_ext {i : Nat} {n : Str} {p1 apos pos : Pos} {y : Expr} {xs : List Expr} {es : List E} (ok : okName C.N C.sc i n = true) (hl : (apos.endLine == pos.line) = true) (ns : noStars (y :: xs) = true) (few : (y :: xs).length < 30) (h : SndA C W (y :: xs) (evOs Φ shs es)) :
    SndE C W (.Call (.Attribute (.Name n p1) "extend" apos) (y :: xs) [] pos) (evE Φ shs (.mth .ext i es)) :=
  snd_mth (r := rExtend) ok h (fun X hX => pe_mm PySem.F.plainAttrs_list PySem.F.slot_list_extend PySem.F.type_list_extend hl ns few (fun _ => rfl) X hX mt_extend) (fun M H a ds vs args us w ws Q sm hM hH hr ha hd k => by
    match args, hd with
    | [.lst ys], hd =>
      simp only [mthD] at hd
      split at hd <;> try (cases hd; done)
      rename_i hz
      cases hd
      simp only [Reps, Rep] at ha
      obtain ⟨v, us', rfl, ⟨b, zs, rfl, h2, h3⟩, rfl⟩ := ha
      refine ⟨a, b, vs, zs, rfl, rfl, hH, sm _ _ h2, ?_, k .non _ (by simp [Rep]) (hr.append h3)⟩
      rw [← hr.length, ← h3.length, sizeLine_eq]; exact hz
    | [], hd => cases hd
    | [.non], hd => cases hd
    | [.bl _], hd => cases hd
    | [.int _], hd => cases hd
    | [.str _], hd => cases hd
    | [.tup _], hd => cases hd
    | [.scr _], hd => cases hd
    | _ :: _ :: _, hd => simp [mthD] at hd)
theorem s_popi {i : Nat} {n : Str} {p1 apos pos : Pos} {y : Expr} {xs : List Expr} {es : List E} (ok : okName C.N C.sc i n = true) (hl : (apos.endLine == pos.line) = true) (ns : noStars (y :: xs) = true) (few : (y :: xs).length < 30) (h : SndA C W (y :: xs) (evOs Φ shs es)) :
    SndE C W (.Call (.Attribute (.Name n p1) "pop" apos) (y :: xs) [] pos) (evE Φ shs (.mth .popi i es)) :=
  snd_mth (r := rPopAt) ok h (fun X hX => pe_mm PySem.F.plainAttrs_list PySem.F.slot_list_pop PySem.F.type_list_pop hl ns few (fun _ => rfl) X hX mt_popAt) (fun M H a ds vs args us w ws Q sm hM hH hr ha hd k => by
    match args, hd with
    | [.int n], hd =>
      simp only [mthD] at hd
      split at hd <;> try (cases hd; done)
      rename_i hz
      split at hd <;> try (cases hd; done)
      rename_i j e1
      split at hd <;> try (cases hd; done)
      rename_i y e2
      cases hd
      simp only [Reps, Rep] at ha
      obtain ⟨v, us', rfl, rfl, rfl⟩ := ha
      obtain ⟨u, h1, h2⟩ := hr.get e2
      exact ⟨a, vs, n, j, u, rfl, rfl, hH, hz.1, hz.2, by rw [← hr.length]; exact (ixN_seq e1).1, h1, k _ _ h2 (hr.eraseIdx j)⟩
    | [], hd => cases hd
    | [.non], hd => cases hd
    | [.bl _], hd => cases hd
    | [.lst _], hd => cases hd
    | [.str _], hd => cases hd
    | [.tup _], hd => cases hd
    | [.scr _], hd => cases hd
    | _ :: _ :: _, hd => simp [mthD] at hd)
end
end G
namespace G
open PySem PySem.Spec PyProof.Rows L2
/-- where the body of a def runs -/
def cfgOf (P : Program) (w : World) (K : PySem.W.Frag) (mg : Str → Option Value) (base : Heap) (sc : Scope) (N : List Str) (pr : List Nat) (k : Nat) (exA : Nat → Option Addr) : Cfg :=
  { P := P, w := w, K := K, mg := mg, base := base, N := N, sc := sc, st := fun x => (decide (sc.names.lookup x = some .local) || decide (sc.names.lookup x = some .cell)) && !(pr.any fun i => decide (N[i]? = some x)), k := k, exA := exA, pr := pr }
theorem mapM_at {α β : Type} {f : α → Option β} : ∀ {l : List α} {ys : List β}, l.mapM f = some ys → ys.length = l.length ∧ ∀ (p : Nat) (s : β), ys[p]? = some s → ∃ x : α, l[p]? = some x ∧ f x = some s
  | [], ys, h => by
    rw [List.mapM_nil] at h
    cases h
    exact ⟨rfl, fun p s e => by simp at e⟩
  | x :: l, ys, h => by
    rw [List.mapM_cons] at h
    cases e1 : f x with
    | none => rw [e1] at h; cases h
    | some y =>
      rw [e1] at h
      cases e2 : l.mapM f with
      | none => rw [e2] at h; cases h
      | some zs =>
        rw [e2] at h
        cases h
        obtain ⟨h1, h2⟩ := mapM_at e2
        refine ⟨by simp [h1], fun p s e => ?_⟩
        cases p with
        | zero => cases e; exact ⟨x, rfl, e1⟩
        | succ p => exact h2 p s (by simpa using e)
theorem outsOf_at {pr : List Nat} {ss outs : List Sl} {nv : Nv} (h : outsOf pr ss nv = some outs) {p : Nat} {s : Sl} (e : outs[p]? = some s) : if pr.contains p = true then nv[p]? = some (some s) else ss[p]? = some s := by
  obtain ⟨_, h2⟩ := mapM_at h
  obtain ⟨x, h3, h4⟩ := h2 p s e
  have hx : p = x := by
    rw [List.getElem?_range (by have := (List.getElem?_eq_some_iff.mp h3).1; simpa using this)] at h3
    exact Option.some.inj h3
  subst hx
  split at h4
  · rename_i c
    rw [if_pos c]
    cases q : nv[p]? with
    | none => rw [q] at h4; cases h4
    | some o => rw [q] at h4; cases o <;> cases h4; rfl
  · rename_i c
    rw [if_neg c]
    exact h4
theorem outsOf_len {pr : List Nat} {ss outs : List Sl} {nv : Nv} (h : outsOf pr ss nv = some outs) : outs.length = ss.length := by
  have := (mapM_at h).1
  simpa using this
theorem start_get {ss : List Sl} {n p : Nat} {s : Sl} (h : (startNv n ss)[p]? = some (some s)) : ss[p]? = some s := by
  unfold startNv at h
  by_cases hp : p < ss.length
  · rw [List.getElem?_append_left (by simpa using hp), List.getElem?_map] at h
    cases q : ss[p]? with
    | none => rw [q] at h; cases h
    | some x => rw [q] at h; cases h; rfl
  · rw [List.getElem?_append_right (by simpa using hp), List.getElem?_replicate] at h
    split at h <;> cases h
theorem start_of {N : List Str} {vs : List V} {p : Nat} (hp : p < vs.length) : (L2.start N vs)[p]? = (vs.map some)[p]? := by
  unfold L2.start
  rw [List.getElem?_append_left (by simpa using hp)]
theorem startN_of {n : Nat} {ss : List Sl} {p : Nat} (hp : p < ss.length) : (startNv n ss)[p]? = (ss.map some)[p]? := by
  unfold startNv
  rw [List.getElem?_append_left (by simpa using hp)]
theorem some_get {α : Type} {l : List α} {p : Nat} {x : α} : (l.map some)[p]? = some (some x) ↔ l[p]? = some x := by
  rw [List.getElem?_map]
  cases l[p]? <;> simp
section
variable {K : PySem.W.Frag} {M H : Hp}
theorem start_st {N : List Str} {vs : List V} {ss : List Sl} (hN : ss.length ≤ N.length) (st : StR K M H (vs.map some) (ss.map some)) : StR K M H (L2.start N vs) (startNv N.length ss) := by
  have hl : ss.length = vs.length := by simpa using st.len
  refine ⟨st.ext, by simp [L2.start, startNv, hl], fun i s h => ?_, fun i j f g xs ys v h1 h2 h3 h4 => ?_⟩
  · have h' := start_get h
    obtain ⟨v, e1, e2⟩ := st.get i s (some_get.mpr h')
    refine ⟨v, ?_, e2⟩
    rw [start_of (hl ▸ (List.getElem?_eq_some_iff.mp h').1)]
    exact e1
  · have a1 := start_get h1
    have a2 := start_get h2
    rw [start_of (hl ▸ (List.getElem?_eq_some_iff.mp a1).1)] at h3
    rw [start_of (hl ▸ (List.getElem?_eq_some_iff.mp a2).1)] at h4
    exact st.apart i j f g xs ys v (some_get.mpr a1) (some_get.mpr a2) h3 h4
theorem start_own {N : List Str} {vs : List V} {ss : List Sl} {a : Addr} (hl : ss.length = vs.length) : Own (L2.start N vs) (startNv N.length ss) a ↔ Own (vs.map some) (ss.map some) a := by
  constructor
  · rintro ⟨i, f, ds, h1, h2⟩
    have h' := start_get h1
    rw [start_of (hl ▸ (List.getElem?_eq_some_iff.mp h').1)] at h2
    exact ⟨i, f, ds, some_get.mpr h', h2⟩
  · rintro ⟨i, f, ds, h1, h2⟩
    have hp : i < ss.length := (List.getElem?_eq_some_iff.mp (some_get.mp h1)).1
    exact ⟨i, f, ds, by rw [startN_of hp]; exact h1, by rw [start_of (hl ▸ hp)]; exact h2⟩
/-- at the end of a body: the parameters' slots -/
theorem outs_st {C : Cfg} {vs : List V} {ss outs : List Sl} {σ' : L2.St} {nv' : Nv} {M' H' : Hp} {N : List Str} (st : StR K M H (vs.map some) (ss.map some)) (lk : lentOk C.pr ss = true)
    (pk : Pk C (L2.start N vs) σ') (mm : Same M M') (st' : StR K M' H' σ' nv') (ho : outsOf C.pr ss nv' = some outs) :
    StR K M' H' (vs.map some) (outs.map some) ∧ ∀ a, Own (vs.map some) (outs.map some) a → Own σ' nv' a := by
  have hl : ss.length = vs.length := by simpa using st.len
  have hol := outsOf_len ho
  have key : ∀ (p : Nat) (s : Sl), outs[p]? = some s → (nv'[p]? = some (some s) ∧ σ'[p]? = (vs.map some)[p]?) ∨ (ss[p]? = some s ∧ ∃ d : G.D, s = Sl.val d) := by
    intro p s e
    have hp : p < vs.length := by
      have := (List.getElem?_eq_some_iff.mp e).1
      omega
    have h := outsOf_at ho e
    split at h
    · rename_i c
      exact .inl ⟨h, by rw [pk.2 p (by simpa using c), start_of hp]⟩
    · rename_i c
      refine .inr ⟨h, ?_⟩
      cases s with
      | val d => exact ⟨d, rfl⟩
      | lv f ds =>
        exfalso
        unfold lentOk at lk
        rw [List.all_eq_true] at lk
        have := lk p (by simp; omega)
        rw [h] at this
        exact c this
  refine ⟨⟨st'.ext, by simp [hol, hl], fun i s h => ?_, fun i j f g xs ys v h1 h2 h3 h4 => ?_⟩, ?_⟩
  · rcases key i s (some_get.mp h) with ⟨a, b⟩ | ⟨a, d, rfl⟩
    · obtain ⟨v, e1, e2⟩ := st'.get i s a
      exact ⟨v, b ▸ e1, e2⟩
    · obtain ⟨v, e1, e2⟩ := st.get i _ (some_get.mpr a)
      exact ⟨v, e1, Rep.mono mm e2⟩
  · rcases key i _ (some_get.mp h1) with ⟨a, b⟩ | ⟨a, d, e⟩
    · rcases key j _ (some_get.mp h2) with ⟨a2, b2⟩ | ⟨a2, d, e⟩
      · exact st'.apart i j f g xs ys v a a2 (b ▸ h3) (b2 ▸ h4)
      · cases e
    · cases e
  · rintro a ⟨i, f, ds, h1, h2⟩
    rcases key i _ (some_get.mp h1) with ⟨a1, b⟩ | ⟨a1, d, e⟩
    · exact ⟨i, f, ds, a1, b ▸ h2⟩
    · cases e
end
/-- a def keeps what its reckoning says -/
theorem df_ok {P : Program} {w : World} {K : PySem.W.Frag} {mg : Str → Option Value} {base : Heap} {x qual : Str} {st : Stmt} {f : Addr} {fd : FuncData} {N ps : List Str} {k : Nat} {Φ : Fn} {shs : Nat → Nat → Shape} {exA : Nat → Option Addr} {i : Nat} {d : Df} {Φ' : Fn} {C0 : Cfg}
    (hK : C0.K = K) (hX : C0.exA = exA) (F : Fun K x qual st f fd) (S : FnScope N ps (defScope st)) (hn : d.n = N.length)
    (hb : ∀ W, SndB (cfgOf P w K mg base (defScope st) N d.pr k exA) W (defBody st) (evB Φ shs d.body)) (hΦ : ∀ ss, Φ' i ss = runDf Φ shs d ss) :
    FnOk P w K mg base (L2.CX P w) (k + 1) f fd ps (spOf C0 Φ' i ps.length) := by
  have hle : ps.length ≤ N.length := by
    have := congrArg List.length S.pre
    rw [List.length_take] at this
    omega
  refine F.okX S (fun vs H Q E h => h.1) (fun cdv A outer s H vs Q E hr h => ?_)
  obtain ⟨hlen, M, ss, st0, hd⟩ := h
  rw [hK] at st0
  have hl : ss.length = vs.length := by simpa using st0.len
  refine ⟨_, PSso (X := cxOf (L2.CX P w) P w K mg base N qual (defScope st) f cdv A outer s H E) (C := cfgOf P w K mg base (defScope st) N d.pr k exA) (W := fun cls d _ H => E cls d H) ⟨⟨rfl, rfl, rfl, rfl, rfl, rfl, rfl, rfl, hr, S.nd, takes_of rfl rfl rfl rfl, fun x hx => ⟨((Bool.or_eq_true _ _).mp ((Bool.and_eq_true _ _).mp hx).1).elim (fun h => .inl (of_decide_eq_true h)) (fun h => .inr (of_decide_eq_true h)), .inl rfl⟩⟩, passes_of rfl, rfl, rfl, rfl⟩ _, ?_⟩
  refine hb _ M H (L2.start N vs) (startNv N.length ss) _ (start_st (by omega) st0) ?_
  rw [hΦ] at hd
  unfold runDf at hd
  split at hd
  · rename_i lk
    rw [hn] at hd
    cases e : evB Φ shs d.body (startNv N.length ss) with
    | ok fl nv' =>
      rw [e] at hd
      cases fl with
      | ret r =>
        intro σ' v M' H' pk s1 st1 rr
        simp only [endDf] at hd
        cases ho : outsOf d.pr ss nv' with
        | none => rw [ho] at hd; exact hd.elim
        | some outs =>
          rw [ho] at hd
          obtain ⟨h1, h2⟩ := outs_st (C := cfgOf P w K mg base (defScope st) N d.pr k exA) st0 lk pk s1.mm st1 ho
          refine hd v M' H' ⟨s1.mm, fun a o h n => s1.keep a o h fun z => n ((start_own hl).mp z), fun a z => ?_, s1.dom, fun a o h => ?_⟩ (hK ▸ h1) ?_
          · rcases s1.own a (z.elim (fun z => .inl (h2 a z)) .inr) with z | z
            · exact .inl ((start_own hl).mp z)
            · exact .inr z
          · rcases s1.mnew a o h with z | z | z
            · exact .inl z
            · exact .inr (.inl ((start_own hl).mp z))
            · exact .inr (.inr z)
          · rw [hK]
            cases r with
            | val dd => exact rr
            | own ds =>
              obtain ⟨a, ws, e1, e2, e3, e4, e5⟩ := rr
              exact ⟨a, ws, e1, e2, e3, fun z => e4 (h2 a z), e5⟩
      | nx =>
        intro σ' M' H' pk s1 st1
        simp only [endDf] at hd
        cases ho : outsOf d.pr ss nv' with
        | none => rw [ho] at hd; exact hd.elim
        | some outs =>
          rw [ho] at hd
          obtain ⟨h1, h2⟩ := outs_st (C := cfgOf P w K mg base (defScope st) N d.pr k exA) st0 lk pk s1.mm st1 ho
          refine hd .non M' H' ⟨s1.mm, fun a o h n => s1.keep a o h fun z => n ((start_own hl).mp z), fun a z => ?_, s1.dom, fun a o h => ?_⟩ (hK ▸ h1) ?_
          · rcases s1.own a (z.elim (fun z => (h2 a z)) fun z => z.elim) with z | z
            · exact .inl ((start_own hl).mp z)
            · exact .inr z
          · rcases s1.mnew a o h with z | z | z
            · exact .inl z
            · exact .inr (.inl ((start_own hl).mp z))
            · exact .inr (.inr z)
          · simp [RR, Rep]
      | brk => exact hd.elim
      | cnt => exact hd.elim
    | exc c as nv' =>
      rw [e] at hd
      intro σ' cls dd M' H' pk s1 st1 er
      simp only [endDf] at hd
      cases ho : outsOf d.pr ss nv' with
      | none => rw [ho] at hd; exact hd.elim
      | some outs =>
        rw [ho] at hd
        obtain ⟨h1, h2⟩ := outs_st (C := cfgOf P w K mg base (defScope st) N d.pr k exA) st0 lk pk s1.mm st1 ho
        refine hd cls dd M' H' ⟨s1.mm, fun a o h n => s1.keep a o h fun z => n ((start_own hl).mp z), fun a z => ?_, s1.dom, fun a o h => ?_⟩ (hK ▸ h1) ?_
        · rcases s1.own a (h2 a z) with z | z
          · exact .inl ((start_own hl).mp z)
          · exact .inr z
        · rcases s1.mnew a o h with z | z | z
          · exact .inl z
          · exact .inr (.inl ((start_own hl).mp z))
          · exact .inr (.inr z)
        · obtain ⟨a, z1, z2⟩ := er
          exact ⟨a, by rw [hX]; exact z1, z2⟩
    | stuck => rw [e] at hd; exact hd.elim
  · exact hd.elim
end G
namespace G
open PySem PySem.Spec PyProof.Rows L2
theorem pr_cfg {P : Program} {w : World} {K : PySem.W.Frag} {mg : Str → Option Value} {base : Heap} {sc : Scope} {N : List Str} {pr : List Nat} {k : Nat} {exA : Nat → Option Addr} : PrOk (cfgOf P w K mg base sc N pr k exA) := by
  intro x i h1 h2 h3
  have h4 : (pr.any fun i => decide (N[i]? = some x)) = false := by
    have := ((Bool.and_eq_true _ _).mp h1).2
    simpa using this
  rw [List.any_eq_false] at h4
  exact h4 i h3 (decide_eq_true h2)
theorem ninOf {t : T} {pr : List Nat} (h : (t.slots.all fun i => !pr.contains i) = true) : ∀ i ∈ t.slots, i ∉ pr := fun i hi hp => by
  rw [List.all_eq_true] at h
  have := h i hi
  simp [hp] at this
theorem inOf {t : T} {own : List Nat} (h : (t.slots.all fun i => own.contains i) = true) : ∀ i ∈ t.slots, i ∈ own := fun i hi => by
  rw [List.all_eq_true] at h
  simpa using h i hi
section
variable {C : Cfg} {W : WX} {M H M1 H1 : Hp} {σ σ' : L2.St} {nv nv1 : Nv} {Φ : Fn} {shs : Nat → Nat → Shape}
theorem FtOk.blk {ft : Nat → Option FnI} {T : ShT} (F : FtOk C Φ ft T) (s : Scope) : FtOk (C.blk s) Φ ft T := ⟨F.at_, F.sh⟩
theorem BltOk.blk (B : BltOk C) (s : Scope) : BltOk (C.blk s) := B
theorem snd_one {op : BoolOp} {x : Expr} {pos : Pos} {f : Nv → Rs R} (h : SndE C W x f) : SndE C W (.BoolOp op [x] pos) f := fun M H σ nv Q st hd => tE.by (fun X hX => pe_one (PEo hX x)) (h M H σ nv Q st hd)
theorem snd_andN {x y : Expr} {xs : List Expr} {pos : Pos} {a b : E} (ha : SndE C W x (evE Φ shs a)) (hb : SndE C W (.BoolOp .And (y :: xs) pos) (evE Φ shs b)) : SndE C W (.BoolOp .And (x :: y :: xs) pos) (evE Φ shs (.and_ a b)) :=
  snd_and ha hb fun X hX => pe_and (PEo hX x) (PEo hX _)
theorem snd_orN {x y : Expr} {xs : List Expr} {pos : Pos} {a b : E} (ha : SndE C W x (evE Φ shs a)) (hb : SndE C W (.BoolOp .Or (y :: xs) pos) (evE Φ shs b)) : SndE C W (.BoolOp .Or (x :: y :: xs) pos) (evE Φ shs (.or_ a b)) :=
  snd_or ha hb fun X hX => pe_or (PEo hX x) (PEo hX _)
theorem so_v {i : Nat} {x : Str} {pos : Pos} (h : okName C.N C.sc i x = true) : SO C W Φ shs (.Name x pos) (.var i) := sndO_var h _
theorem so_e {x : Expr} {a : E} (na : isVar a = false) (h : SndE C W x (evE Φ shs a)) : SO C W Φ shs x a := sndO_of na h
theorem sa_b {x : Str} {p : Pos} {xs : List Expr} {i : Nat} {es : List E} (h : okName C.N C.sc i x = true) (hs : SndA C W xs (evOs Φ shs es)) : SndA C W (.Name x p :: xs) (evOs Φ shs (.brw i :: es)) := sndA_cons rfl (.inl ⟨i, rfl, x, p, rfl, h⟩) hs
theorem brw_no {e : E} (h : isBrw e = false) : ∀ i, e ≠ .brw i := fun i z => by subst z; cases h
theorem sa_e {x : Expr} {xs : List Expr} {e : E} {es : List E} (ns : noStar x = true) (nb : isBrw e = false) (h : SndE C W x (evE Φ shs e)) (hs : SndA C W xs (evOs Φ shs es)) : SndA C W (x :: xs) (evOs Φ shs (e :: es)) := sndA_cons ns (.inr ⟨brw_no nb, h⟩) hs
theorem sw_and1 {x y : Expr} {a b : E} {pos : Pos} (ha : SndT C W x (evE Φ shs a)) (hb : SndT C W y (evE Φ shs b)) : SndW C W (.BoolOp .And [x, y] pos) (evE Φ shs (.and_ a b)) := sndW_and ha (.inl ⟨rfl, hb⟩)
theorem sw_and {x y z : Expr} {xs : List Expr} {a b : E} {pos : Pos} (ha : SndT C W x (evE Φ shs a)) (hb : SndW C W (.BoolOp .And (y :: z :: xs) pos) (evE Φ shs b)) : SndW C W (.BoolOp .And (x :: y :: z :: xs) pos) (evE Φ shs (.and_ a b)) := sndW_and ha (.inr hb)
theorem sw_or1 {x y : Expr} {a b : E} {pos : Pos} (ha : SndT C W x (evE Φ shs a)) (hb : SndT C W y (evE Φ shs b)) : SndW C W (.BoolOp .Or [x, y] pos) (evE Φ shs (.or_ a b)) := sndW_or ha (.inl ⟨rfl, hb⟩)
theorem sw_or {x y z : Expr} {xs : List Expr} {a b : E} {pos : Pos} (ha : SndT C W x (evE Φ shs a)) (hb : SndW C W (.BoolOp .Or (y :: z :: xs) pos) (evE Φ shs b)) : SndW C W (.BoolOp .Or (x :: y :: z :: xs) pos) (evE Φ shs (.or_ a b)) := sndW_or ha (.inr hb)
end
end G
namespace G
open PySem PySem.Spec PyProof.Rows L2
theorem arrO_map : ∀ {ks : List Nat} {os os' : List (D ⊕ Nat)}, arrO (ks.map .inl) os = some os' → os'.length = ks.length ∧ ∀ (p x : Nat), ks[p]? = some x → os'[p]? = os[x]?
  | [], os, os', h => by
    cases h
    exact ⟨rfl, fun p x e => by simp at e⟩
  | k :: ks, os, os', h => by
    simp only [List.map_cons, arrO] at h
    split at h
    · rename_i o r' e1 e2
      cases h
      obtain ⟨h1, h2⟩ := arrO_map e2
      refine ⟨by simp [h1], fun p x e => ?_⟩
      cases p with
      | zero => cases e; simpa using e1.symm
      | succ p => simpa using h2 p x (by simpa using e)
    · cases h
theorem arrO_range {os os' : List (D ⊕ Nat)} {n : Nat} (hn : os.length = n) (h : arrO ((List.range n).map .inl) os = some os') : os' = os := by
  obtain ⟨h1, h2⟩ := arrO_map h
  rw [List.length_range] at h1
  apply List.ext_getElem?
  intro p
  by_cases hp : p < n
  · exact h2 p p (List.getElem?_range hp)
  · rw [List.getElem?_eq_none (by omega), List.getElem?_eq_none (by omega)]
theorem OpdsR.len {K : PySem.W.Frag} {M : Hp} {σ : L2.St} : ∀ {os : List (D ⊕ Nat)} {vs : List V}, OpdsR K M σ os vs → os.length = vs.length
  | [], vs, h => by
    have h : vs = [] := h
    subst h
    rfl
  | o :: os, vs, h => by
    obtain ⟨v, vs', rfl, e2, e3⟩ := h
    simp [OpdsR.len e3]
theorem vals_len {vs : List V} {us : List Value} (h : Vals vs us) : vs.length = us.length := by
  induction h with
  | nil => rfl
  | cons _ _ ih => simp [ih]
/-- a call that writes every parameter by its place -/
theorem shok_pos {K : PySem.W.Frag} {fd : FuncData} {ps : List Str} (n : Nat) (hn : ps.length = n) (b : L2.Binds K fd ps []) : ShOk K fd ps [] n ((List.range n).map .inl) := by
  refine ⟨fun us _ => us, fun s us ws hk hl hw => ?_, fun M σ os os' vs zs us ws hl hw hv hz ho ha => ?_⟩
  · have hw : ws = [] := List.length_eq_zero_iff.mp hw
    subst hw
    have := b s us hk (by simpa [hn] using hl)
    simpa using this
  · have hw : ws = [] := List.length_eq_zero_iff.mp hw
    subst hw
    cases hz
    rw [List.append_nil] at ho
    have e := arrO_range (by rw [ho.len, vals_len hv, hl]) ha
    subst e
    exact ⟨vs, hv, ho, by rw [vals_len hv, hl, hn]⟩
section
variable {P : Program} {w : World} {K : PySem.W.Frag} {mg : Str → Option Value} {base : Heap} {k : Nat} {exA : Nat → Option Addr}
theorem ft_move {sc sc' : Scope} {N N' : List Str} {pr pr' : List Nat} {Φ : Fn} {ft : Nat → Option FnI} {T : ShT} (F : FtOk (cfgOf P w K mg base sc N pr k exA) Φ ft T) : FtOk (cfgOf P w K mg base sc' N' pr' k exA) Φ ft T := ⟨F.at_, F.sh⟩
theorem fn_zero {C : Cfg} {f : Addr} {fd : FuncData} {ps : List Str} {ds : List Df} {shs : Nat → Nat → Shape} {i : Nat} : FnOk P w K mg base (L2.CX P w) 0 f fd ps (spOf C (calls ds shs 0) i ps.length) :=
  ⟨fun vs H Q E h => h.1, fun A outer s H args us vs Q E hr he hb hv hs => by
    obtain ⟨_, M, ss, _, h⟩ := hs
    exact h.elim⟩
/-- what the law promises -/
def spLaw (K : PySem.W.Frag) : Sp := fun vs H Q _ => ∃ (a : Addr) (ns : List Int), vs = [.ref a] ∧ SqL K H a (ns.map V.int) ∧ ns.length ≤ 63 ∧ ∀ H', Q (.bl true) H'
theorem law_imp {C : Cfg} {Φ : Fn} {i : Nat} (hK : C.K = K) (h : ∀ ns : List Int, ns.length ≤ 63 → ∃ outs, Φ i [.val (.scr ns)] = .ok (.val (.bl true)) outs) (vs : List V) (H : Hp) (Q : VK) (E : XK) (sp : spLaw K vs H Q E) : spOf C Φ i 1 vs H Q E := by
  obtain ⟨a, ns, rfl, hS, hl, q⟩ := sp
  obtain ⟨outs, e⟩ := h ns hl
  refine ⟨rfl, H, [.val (.scr ns)], ⟨Same.refl _, rfl, fun i s h => ?_, fun i j f g xs ys v h => ?_⟩, ?_⟩
  · match i, h with
    | 0, h => cases h; exact ⟨.ref a, rfl, by simp only [SlR, Rep]; exact ⟨a, rfl, hK ▸ hS⟩⟩
    | i + 1, h => simp at h
  · match i, h with
    | 0, h => cases h
    | i + 1, h => simp at h
  · rw [e]
    intro v M' H' _ _ r
    simp only [RR, Rep] at r
    subst r
    exact q H'
end
end G
namespace G
open PySem PySem.Spec PyProof.Rows L2
theorem cx_no {P : Program} {w : World} {H : Hp} {s s' : Shared} {e : Value} {o : List Env} (h : L2.CX P w o H s (fun _ _ _ => False) e s') : False := by
  obtain ⟨_, _, _, _, _, _, _, _, _, _, _, _, z⟩ := h
  exact z.elim
end G
namespace G
theorem calls_succ {ds : List Df} {shs : Nat → Nat → Shape} {k i : Nat} {d : Df} {ss : List Sl} (h : ds[i]? = some d) : calls ds shs (k + 1) i ss = runDf (calls ds shs k) shs d ss := by
  simp only [calls, h]
end G
namespace G
open PySem L2
def Wp {α : Type} (r : Rs α) (Q : α → Nv → Prop) : Prop := ∃ a nv, r = .ok a nv ∧ Q a nv
def WpC (c : Cr) (Q : R → List Sl → Prop) : Prop := ∃ r outs, c = .ok r outs ∧ Q r outs
section
variable {α β : Type} {Q : α → Nv → Prop}
theorem wp_ok {a : α} {nv : Nv} : Wp (.ok a nv) Q ↔ Q a nv := ⟨fun ⟨_, _, e, h⟩ => by cases e; exact h, fun h => ⟨a, nv, rfl, h⟩⟩
theorem wp_stuck : Wp (.stuck : Rs α) Q ↔ False := ⟨fun ⟨_, _, e, _⟩ => (nomatch e), False.elim⟩
theorem wp_bind {r : Rs β} {f : β → Nv → Rs α} : Wp (r.bind f) Q ↔ Wp r (fun a nv => Wp (f a nv) Q) := by
  cases r with
  | ok a nv => exact ⟨fun h => ⟨a, nv, rfl, h⟩, fun ⟨_, _, e, h⟩ => by cases e; exact h⟩
  | exc c as nv => exact ⟨fun ⟨_, _, e, _⟩ => (nomatch e), fun ⟨_, _, e, _⟩ => (nomatch e)⟩
  | stuck => exact ⟨fun ⟨_, _, e, _⟩ => (nomatch e), fun ⟨_, _, e, _⟩ => (nomatch e)⟩
theorem wp_of {o : Option α} {nv : Nv} : Wp (Rs.of o nv) Q ↔ ∃ a, o = some a ∧ Q a nv := by
  cases o with
  | none => exact ⟨fun ⟨_, _, e, _⟩ => (nomatch e), fun ⟨_, e, _⟩ => (nomatch e)⟩
  | some a => exact ⟨fun ⟨_, _, e, h⟩ => ⟨a, rfl, by cases e; exact h⟩, fun ⟨_, e, h⟩ => by cases e; exact ⟨a, nv, rfl, h⟩⟩
theorem wp_nox {r : Rs α} : Wp r.nox Q ↔ Wp r Q := by
  cases r with
  | ok a nv => exact Iff.rfl
  | exc c as nv => exact ⟨fun ⟨_, _, e, _⟩ => (nomatch e), fun ⟨_, _, e, _⟩ => (nomatch e)⟩
  | stuck => exact Iff.rfl
theorem Wp.imp {r : Rs α} {Q' : α → Nv → Prop} (h : Wp r Q) (k : ∀ a nv, Q a nv → Q' a nv) : Wp r Q' := by
  obtain ⟨a, nv, e, h⟩ := h
  exact ⟨a, nv, e, k a nv h⟩
end
theorem wp_for {body : D → Nv → Rs Fl} {Q : Fl → Nv → Prop} (I : List D → Nv → Prop) : ∀ {xs : List D} {nv : Nv}, I xs nv → (∀ d ds nv, I (d :: ds) nv → Wp (body d nv) fun f nv' => f = .nx ∧ I ds nv') → (∀ nv, I [] nv → Q .nx nv) → Wp (forLoop body xs nv) Q
  | [], nv, i, h, q => ⟨.nx, nv, rfl, q nv i⟩
  | d :: ds, nv, i, h, q => by
    obtain ⟨f, nv', e, rfl, i'⟩ := h d ds nv i
    have := wp_for I i' h q
    simp only [forLoop, e]
    exact this
theorem wp_comp {turn : D → Nv → Rs (Option D)} {Q : List D → Nv → Prop} (I : List D → List D → Nv → Prop) : ∀ {xs acc : List D} {nv : Nv}, I xs acc nv → (∀ d ds acc nv, I (d :: ds) acc nv → Wp (turn d nv) fun o nv' => match o with
    | some y => acc.length < SZ ∧ I ds (acc ++ [y]) nv'
    | none => I ds acc nv') → (∀ acc nv, I [] acc nv → Q acc nv) → Wp (compLoop turn xs acc nv) Q
  | [], acc, nv, i, h, q => ⟨acc, nv, rfl, q acc nv i⟩
  | d :: ds, acc, nv, i, h, q => by
    obtain ⟨o, nv', e, i'⟩ := h d ds acc nv i
    simp only [compLoop, e]
    cases o with
    | some y =>
      show Wp (if acc.length < SZ then compLoop turn ds (acc ++ [y]) nv' else .stuck) Q
      rw [if_pos i'.1]
      exact wp_comp I i'.2 h q
    | none => exact wp_comp I i' h q
theorem wpC_df {ds : List Df} {shs : Nat → Nat → Shape} {n i : Nat} {d : Df} {ss : List Sl} {Q : R → List Sl → Prop} (e : ds[i]? = some d) (hl : lentOk d.pr ss = true) (h : Wp (evB (calls ds shs n) shs d.body (startNv d.n ss)) fun f nv => match f with
    | .ret r => ∃ outs, outsOf d.pr ss nv = some outs ∧ Q r outs
    | .nx => ∃ outs, outsOf d.pr ss nv = some outs ∧ Q (.val .non) outs
    | _ => False) : WpC (calls ds shs (n + 1) i ss) Q := by
  obtain ⟨f, nv, e1, h⟩ := h
  rw [calls_succ e]
  unfold runDf
  rw [if_pos hl, e1]
  cases f with
  | ret r =>
    obtain ⟨outs, e2, q⟩ := h
    exact ⟨r, outs, by simp [endDf, e2], q⟩
  | nx =>
    obtain ⟨outs, e2, q⟩ := h
    exact ⟨.val .non, outs, by simp [endDf, e2], q⟩
  | brk => exact h.elim
  | cnt => exact h.elim
section
variable {Φ : Fn} {shs : Nat → Nat → Shape} {Q : Fl → Nv → Prop} {nv : Nv}
theorem wp_cons {s : S} {ss : List S} (h : Wp (evS Φ shs s nv) fun f nv1 => match f with
    | .nx => Wp (evB Φ shs ss nv1) Q
    | f => Q f nv1) : Wp (evB Φ shs (s :: ss) nv) Q := by
  rw [evB, wp_bind]
  refine h.imp fun f nv1 h => ?_
  cases f with
  | nx => exact h
  | brk => exact wp_ok.mpr h
  | cnt => exact wp_ok.mpr h
  | ret r => exact wp_ok.mpr h
theorem wp_nil (h : Q .nx nv) : Wp (evB Φ shs [] nv) Q := by
  rw [evB]
  exact wp_ok.mpr h
theorem wp_ifT {c : E} {a b : List S} {nv1 : Nv} (hc : evE Φ shs c nv = .ok (.val (.bl true)) nv1) (h : Wp (evB Φ shs a nv1) Q) : Wp (evS Φ shs (.ife c a b) nv) Q := by
  rw [evS, hc]
  exact h
theorem wp_ifF {c : E} {a b : List S} {nv1 : Nv} (hc : evE Φ shs c nv = .ok (.val (.bl false)) nv1) (h : Wp (evB Φ shs b nv1) Q) : Wp (evS Φ shs (.ife c a b) nv) Q := by
  rw [evS, hc]
  exact h
theorem wp_if {c : E} {a b : List S} {nv1 : Nv} {k : Bool} (hc : evE Φ shs c nv = .ok (.val (.bl k)) nv1) (h : k = true → Wp (evB Φ shs a nv1) Q) (h2 : k = false → Wp (evB Φ shs b nv1) Q) : Wp (evS Φ shs (.ife c a b) nv) Q := by
  cases k with
  | true => exact wp_ifT hc (h rfl)
  | false => exact wp_ifF hc (h2 rfl)
theorem wp_ret {e : E} {r : R} {nv1 : Nv} (he : evE Φ shs e nv = .ok r nv1) (h : Q (.ret r) nv1) : Wp (evS Φ shs (.ret e) nv) Q := by
  rw [evS, he]
  exact wp_ok.mpr h
end
theorem bind_ok {α β : Type} {a : α} {nv : Nv} {f : α → Nv → Rs β} : (Rs.ok a nv).bind f = f a nv := rfl
theorem of_some {α : Type} {a : α} {nv : Nv} : Rs.of (some a) nv = .ok a nv := rfl
end G
namespace K00
open PySem PySem.Spec PyProof.Rows L2 G
abbrev tp (i : Nat) : Stmt := PySem.Challenge.pw_gazette_k00_tally_counts_seats.main.body.getD i (.Pass ⟨0, 0, 0, 0⟩)
def nms : List (Str × List Str) := [("holders_of", ["seats", "chamber"]), ("vote_of", ["roll_call", "member"]), ("tally", ["seats", "roll_call", "chamber"]), ("_law_tape", ["script"]), ("_law_draw", ["tape", "many"]), ("_law_same", ["actual", "expected"]), ("_law_holders", ["tape", "top"]), ("_law_seats", ["tape", "most"]), ("_law_roll", ["tape", "many"]), ("_law_tally", ["seats", "roll", "chamber"]), ("law", ["script"])]
def ft (fa : Nat → Addr) (fdd : Nat → FuncData) : Nat → Option FnI := fun i => (nms[i]?).map fun q => ⟨q.1, fa i, fdd i, q.2⟩
def tab : List (List (Nat × List Str × G.Shape)) := [[(2, [], [.inl 0, .inl 1])], [(2, [], [.inl 0, .inl 1])], [(3, [], [.inl 0, .inl 1, .inl 2])], [(1, [], [.inl 0])], [(2, [], [.inl 0, .inl 1])], [(2, [], [.inl 0, .inl 1])], [(2, [], [.inl 0, .inl 1])], [(2, [], [.inl 0, .inl 1])], [(2, [], [.inl 0, .inl 1])], [(3, [], [.inl 0, .inl 1, .inl 2])], [(1, [], [.inl 0])]]
def tt : ShT := fun i j => (tab[i]?).bind fun q => q[j]?
abbrev s0 : Stmt := tp 1
abbrev n0 : List Str := ["seats", "chamber"]
def d0 : Df := ⟨2, [], [.ret (.ife (.op2 .lt (.var 1) (.op1 .len (.var 0))) (.op2 .ix (.var 0) (.var 1)) (.tup []))]⟩
abbrev s1 : Stmt := tp 2
abbrev n1 : List Str := ["roll_call", "member"]
def d1 : Df := ⟨2, [], [.ret (.ife (.op2 .lt (.var 1) (.op1 .len (.var 0))) (.op2 .ix (.var 0) (.var 1)) (.str "-"))]⟩
abbrev s2 : Stmt := tp 3
abbrev n2 : List Str := ["seats", "roll_call", "chamber", "holders", "votes", "holder"]
def d2 : Df := ⟨6, [], [.asg (.nm 3) (.call 0 0 [.var 0, .var 2]), .asg (.nm 4) (.comp (.nm 5) .seq [.var 3] [.op1 .notN (.var 5)] (.call 1 0 [.var 1, .var 5]) [5]), .ret (.tup [.op1 .len (.var 3), .mop .count (.var 4) (.str "Y"), .mop .count (.var 4) (.str "N"), .mop .count (.var 4) (.str "P")])]⟩
abbrev s3 : Stmt := tp 5
abbrev n3 : List Str := ["script", "total", "cell"]
def d3 : Df := ⟨3, [], [.asg (.nm 1) (.int 7), .for_ (.nm 2) .seq [.var 0] [.asg (.nm 1) (.op2 .mod (.op1 .int (.op2 .add (.op2 .mul (.var 1) (.int 31)) (.op1 .abs (.op1 .int (.var 2))))) (.int 2147483647))], .ret (.lst [.op1 .list (.var 0), .int 0, .int 0, .var 1])]⟩
abbrev s4 : Stmt := tp 6
abbrev n4 : List Str := ["tape", "many", "place", "number"]
def d4 : Df := ⟨4, [0], [.ife (.op2 .eq (.op2 .ix (.var 0) (.int 2)) (.int 0)) [.asg (.nm 2) (.op2 .ix (.var 0) (.int 1)), .asg (.nm 3) (.int 0), .ife (.op2 .lt (.var 2) (.op1 .len (.op2 .ix (.var 0) (.int 0)))) [.asg (.nm 3) (.op1 .abs (.op1 .int (.op2 .ix (.op2 .ix (.var 0) (.int 0)) (.var 2))))] [.sti 0 (.int 3) (.op2 .mod (.op1 .int (.op2 .add (.op2 .add (.op2 .mul (.op2 .ix (.var 0) (.int 3)) (.int 48271)) (.var 2)) (.int 1))) (.int 2147483647)), .asg (.nm 3) (.op2 .ix (.var 0) (.int 3))], .sti 0 (.int 1) (.op2 .add (.var 2) (.int 1)), .ife (.op2 .lt (.var 3) (.op2 .pow (.int 10) (.int 18))) [.asg (.nm 3) (.op2 .mod (.op1 .int (.op2 .add (.op2 .add (.op2 .mul (.var 3) (.int 48271)) (.op2 .mul (.var 2) (.int 69621))) (.int 5))) (.int 2147483647)), .asg (.nm 3) (.op2 .mod (.op1 .int (.op2 .mul (.var 3) (.int 69621))) (.int 2147483629)), .ret (.op2 .mod (.op1 .int (.var 3)) (.op2 .max (.var 1) (.int 1)))] [], .sti 0 (.int 2) (.var 3)] [], .asg (.nm 3) (.op2 .ix (.var 0) (.int 2)), .sti 0 (.int 2) (.op2 .fdiv (.var 3) (.op2 .max (.var 1) (.int 2))), .ret (.op2 .mod (.op1 .int (.var 3)) (.op2 .max (.var 1) (.int 1)))]⟩
abbrev s5 : Stmt := tp 7
abbrev n5 : List Str := ["actual", "expected", "k"]
def d5 : Df := ⟨3, [], [.ife (.op1 .isN (.var 1)) [.ret (.op1 .isN (.var 0))] [], .ife (.op1 .truth (.op1 (.isi 0) (.var 1))) [.ife (.or_ (.not_ (.op1 .truth (.op1 (.isi 0) (.var 0)))) (.op2 .ne (.op1 .len (.var 0)) (.op1 .len (.var 1)))) [.ret (.bl false)] [], .for_ (.nm 2) .rng [.op1 .len (.var 1)] [.ife (.not_ (.op1 .truth (.call 5 0 [.op2 .ix (.var 0) (.var 2), .op2 .ix (.var 1) (.var 2)]))) [.ret (.bl false)] []], .ret (.bl true)] [], .ife (.op1 .truth (.op1 (.isi 1) (.var 1))) [.ret (.and_ (.op1 (.isi 1) (.var 0)) (.op2 .eq (.var 0) (.var 1)))] [], .ife (.op1 .truth (.op1 (.isi 2) (.var 1))) [.ret (.and_ (.op1 (.isi 2) (.var 0)) (.op2 .eq (.var 0) (.var 1)))] [], .ret (.and_ (.op1 (.isi 3) (.var 0)) (.and_ (.not_ (.op1 (.isi 1) (.var 0))) (.op2 .eq (.var 0) (.var 1))))]⟩
abbrev s6 : Stmt := tp 8
abbrev n6 : List Str := ["tape", "top", "holders", "j"]
def d6 : Df := ⟨4, [0], [.asg (.nm 2) (.lst []), .for_ (.nm 3) .rng [.op2 .add (.int 1) (.call 4 0 [.brw 0, .int 12])] [.ife (.op2 .eq (.call 4 0 [.brw 0, .int 4]) (.int 0)) [.expr (.mth .app 2 [.non])] [.expr (.mth .app 2 [.call 4 0 [.brw 0, .var 1]])]], .ret (.op1 .tupl (.var 2))]⟩
abbrev s7 : Stmt := tp 9
abbrev n7 : List Str := ["tape", "most", "top", "chambers", "k"]
def d7 : Df := ⟨5, [0], [.asg (.nm 2) (.op2 .ix (.lst [.int 12, .int 12, .int 4, .int 2]) (.call 4 0 [.brw 0, .int 4])), .asg (.nm 3) (.lst []), .for_ (.nm 4) .rng [.op2 .add (.int 1) (.call 4 0 [.brw 0, .var 1])] [.expr (.mth .app 3 [.call 6 0 [.brw 0, .var 2]])], .ret (.op1 .tupl (.var 3))]⟩
abbrev s8 : Stmt := tp 10
abbrev n8 : List Str := ["tape", "many", "k"]
def d8 : Df := ⟨3, [0], [.ret (.mop .join (.str "") (.comp (.nm 2) .rng [.var 1] [] (.op2 .ix (.str "YYNNP-") (.call 4 0 [.brw 0, .int 6])) [2]))]⟩
abbrev s9 : Stmt := tp 11
abbrev n9 : List Str := ["seats", "roll", "chamber", "counts", "holder", "vote"]
def d9 : Df := ⟨6, [], [.ife (.op2 .ge (.var 2) (.op1 .len (.var 0))) [.ret (.tup [.int 0, .int 0, .int 0, .int 0])] [], .asg (.nm 3) (.lst [.int 0, .int 0, .int 0]), .for_ (.nm 4) .seq [.op2 .ix (.var 0) (.var 2)] [.ife (.and_ (.op1 .notN (.var 4)) (.and_ (.op2 .lt (.var 4) (.op1 .len (.var 1))) (.op2 .ne (.op2 .ix (.var 1) (.var 4)) (.str "-")))) [.asg (.nm 5) (.mop .sidx (.str "YNP") (.op2 .ix (.var 1) (.var 4))), .sti 3 (.var 5) (.op2 .add (.op2 .ix (.var 3) (.var 5)) (.int 1))] []], .ret (.tup [.op1 .len (.op2 .ix (.var 0) (.var 2)), .op2 .ix (.var 3) (.int 0), .op2 .ix (.var 3) (.int 1), .op2 .ix (.var 3) (.int 2)])]⟩
abbrev s10 : Stmt := tp 12
abbrev n10 : List Str := ["script", "tape", "seats", "first", "second", "row", "chamber"]
def d10 : Df := ⟨7, [], [.asg (.nm 1) (.call 3 0 [.var 0]), .asg (.nm 2) (.call 7 0 [.brw 1, .int 4]), .asg (.nm 3) (.call 8 0 [.brw 1, .call 4 0 [.brw 1, .int 13]]), .asg (.nm 4) (.call 8 0 [.brw 1, .call 4 0 [.brw 1, .int 13]]), .for_ (.nm 5) .seq [.lst [.lst [.var 2, .var 3], .lst [.var 2, .var 4], .lst [.call 7 0 [.brw 1, .int 4], .var 4]]] [.for_ (.nm 6) .rng [.int 4] [.ife (.not_ (.op1 .truth (.call 5 0 [.call 2 0 [.op2 .ix (.var 5) (.int 0), .op2 .ix (.var 5) (.int 1), .var 6], .call 9 0 [.op2 .ix (.var 5) (.int 0), .op2 .ix (.var 5) (.int 1), .var 6]]))) [.ret (.bl false)] []]], .ret (.bl true)]⟩
section
variable {P : Program} {w : World} {K : PySem.W.Frag} {mg : Str → Option Value} {base : Heap} {k : Nat} {exA : Nat → Option Addr} {Φ : Fn} {fa : Nat → Addr} {fdd : Nat → FuncData}
theorem b0 (B : BltOk (cfgOf P w K mg base (defScope s0) n0 d0.pr k exA)) (F : FtOk (cfgOf P w K mg base (defScope s0) n0 d0.pr k exA) Φ (ft fa fdd) tt) (W : WX) : SndB (cfgOf P w K mg base (defScope s0) n0 d0.pr k exA) W (defBody s0) (evB Φ (shsOf tt) d0.body) :=
  (sndB_cons (sndS_ret (snd_ife (t_cmp rfl (so_v rfl) (so_e rfl (s_b1 B rfl rfl rfl (so_v rfl)))) (s_ix rfl (so_v rfl) (so_v rfl)) (snd_tup sndA_nil))) sndB_nil)
theorem b1 (B : BltOk (cfgOf P w K mg base (defScope s1) n1 d1.pr k exA)) (F : FtOk (cfgOf P w K mg base (defScope s1) n1 d1.pr k exA) Φ (ft fa fdd) tt) (W : WX) : SndB (cfgOf P w K mg base (defScope s1) n1 d1.pr k exA) W (defBody s1) (evB Φ (shsOf tt) d1.body) :=
  (sndB_cons (sndS_ret (snd_ife (t_cmp rfl (so_v rfl) (so_e rfl (s_b1 B rfl rfl rfl (so_v rfl)))) (s_ix rfl (so_v rfl) (so_v rfl)) snd_str)) sndB_nil)
theorem b2 (B : BltOk (cfgOf P w K mg base (defScope s2) n2 d2.pr k exA)) (F : FtOk (cfgOf P w K mg base (defScope s2) n2 d2.pr k exA) Φ (ft fa fdd) tt) (W : WX) : SndB (cfgOf P w K mg base (defScope s2) n2 d2.pr k exA) W (defBody s2) (evB Φ (shsOf tt) d2.body) :=
  (sndB_cons (sndS_asgN pr_cfg rfl rfl rfl (snd_call (fi := ⟨"holders_of", fa 0, fdd 0, ["seats", "chamber"]⟩) F rfl rfl rfl rfl rfl rfl (sa_e rfl rfl (snd_var rfl) (sa_e rfl rfl (snd_var rfl) sndA_nil)))) (sndB_cons (sndS_asgC pr_cfg rfl rfl rfl rfl rfl rfl (inOf rfl) rfl (sndI_seq rfl (snd_var rfl)) (sndC_one (t_notN (so_v rfl))) (snd_call (fi := ⟨"vote_of", fa 1, fdd 1, ["roll_call", "member"]⟩) (F.blk _) rfl rfl rfl rfl rfl rfl (sa_e rfl rfl (snd_var rfl) (sa_e rfl rfl (snd_var rfl) sndA_nil)))) (sndB_cons (sndS_ret (snd_tup (sa_e rfl rfl (s_b1 B rfl rfl rfl (so_v rfl)) (sa_e rfl rfl (s_count rfl rfl rfl (so_v rfl) (so_e rfl snd_str)) (sa_e rfl rfl (s_count rfl rfl rfl (so_v rfl) (so_e rfl snd_str)) (sa_e rfl rfl (s_count rfl rfl rfl (so_v rfl) (so_e rfl snd_str)) sndA_nil)))))) sndB_nil)))
theorem b3 (B : BltOk (cfgOf P w K mg base (defScope s3) n3 d3.pr k exA)) (F : FtOk (cfgOf P w K mg base (defScope s3) n3 d3.pr k exA) Φ (ft fa fdd) tt) (W : WX) : SndB (cfgOf P w K mg base (defScope s3) n3 d3.pr k exA) W (defBody s3) (evB Φ (shsOf tt) d3.body) :=
  (sndB_cons (sndS_asgN pr_cfg rfl rfl rfl snd_int) (sndB_cons (sndS_for pr_cfg rfl (ninOf rfl) rfl (sndI_seq rfl (snd_var rfl)) (sndB_cons (sndS_asgN pr_cfg rfl rfl rfl (s_mod (so_e rfl (s_b1 B rfl rfl rfl (so_e rfl (s_add (so_e rfl (s_mul (so_v rfl) (so_e rfl snd_int))) (so_e rfl (s_b1 B rfl rfl rfl (so_e rfl (s_b1 B rfl rfl rfl (so_v rfl))))))))) (so_e rfl snd_int))) sndB_nil)) (sndB_cons (sndS_ret (snd_lst (sa_e rfl rfl (s_b1 B rfl rfl rfl (so_v rfl)) (sa_e rfl rfl snd_int (sa_e rfl rfl snd_int (sa_e rfl rfl (snd_var rfl) sndA_nil)))))) sndB_nil)))
theorem b4 (B : BltOk (cfgOf P w K mg base (defScope s4) n4 d4.pr k exA)) (F : FtOk (cfgOf P w K mg base (defScope s4) n4 d4.pr k exA) Φ (ft fa fdd) tt) (W : WX) : SndB (cfgOf P w K mg base (defScope s4) n4 d4.pr k exA) W (defBody s4) (evB Φ (shsOf tt) d4.body) :=
  (sndB_cons (sndS_ife (t_cmp rfl (so_e rfl (s_ix rfl (so_v rfl) (so_e rfl snd_int))) (so_e rfl snd_int)) (sndB_cons (sndS_asgN pr_cfg rfl rfl rfl (s_ix rfl (so_v rfl) (so_e rfl snd_int))) (sndB_cons (sndS_asgN pr_cfg rfl rfl rfl snd_int) (sndB_cons (sndS_ife (t_cmp rfl (so_v rfl) (so_e rfl (s_b1 B rfl rfl rfl (so_e rfl (s_ix rfl (so_v rfl) (so_e rfl snd_int)))))) (sndB_cons (sndS_asgN pr_cfg rfl rfl rfl (s_b1 B rfl rfl rfl (so_e rfl (s_b1 B rfl rfl rfl (so_e rfl (s_ix rfl (so_e rfl (s_ix rfl (so_v rfl) (so_e rfl snd_int))) (so_v rfl))))))) sndB_nil) (sndB_cons (sndS_sti rfl rfl rfl snd_int (s_mod (so_e rfl (s_b1 B rfl rfl rfl (so_e rfl (s_add (so_e rfl (s_add (so_e rfl (s_mul (so_e rfl (s_ix rfl (so_v rfl) (so_e rfl snd_int))) (so_e rfl snd_int))) (so_v rfl))) (so_e rfl snd_int))))) (so_e rfl snd_int))) (sndB_cons (sndS_asgN pr_cfg rfl rfl rfl (s_ix rfl (so_v rfl) (so_e rfl snd_int))) sndB_nil))) (sndB_cons (sndS_sti rfl rfl rfl snd_int (s_add (so_v rfl) (so_e rfl snd_int))) (sndB_cons (sndS_ife (t_cmp rfl (so_v rfl) (so_e rfl (s_pow (so_e rfl snd_int) (so_e rfl snd_int)))) (sndB_cons (sndS_asgN pr_cfg rfl rfl rfl (s_mod (so_e rfl (s_b1 B rfl rfl rfl (so_e rfl (s_add (so_e rfl (s_add (so_e rfl (s_mul (so_v rfl) (so_e rfl snd_int))) (so_e rfl (s_mul (so_v rfl) (so_e rfl snd_int))))) (so_e rfl snd_int))))) (so_e rfl snd_int))) (sndB_cons (sndS_asgN pr_cfg rfl rfl rfl (s_mod (so_e rfl (s_b1 B rfl rfl rfl (so_e rfl (s_mul (so_v rfl) (so_e rfl snd_int))))) (so_e rfl snd_int))) (sndB_cons (sndS_ret (s_mod (so_e rfl (s_b1 B rfl rfl rfl (so_v rfl))) (so_e rfl (s_max B rfl rfl rfl (so_v rfl) (so_e rfl snd_int))))) sndB_nil))) sndB_nil) (sndB_cons (sndS_sti rfl rfl rfl snd_int (snd_var rfl)) sndB_nil)))))) sndB_nil) (sndB_cons (sndS_asgN pr_cfg rfl rfl rfl (s_ix rfl (so_v rfl) (so_e rfl snd_int))) (sndB_cons (sndS_sti rfl rfl rfl snd_int (s_fdiv (so_v rfl) (so_e rfl (s_max B rfl rfl rfl (so_v rfl) (so_e rfl snd_int))))) (sndB_cons (sndS_ret (s_mod (so_e rfl (s_b1 B rfl rfl rfl (so_v rfl))) (so_e rfl (s_max B rfl rfl rfl (so_v rfl) (so_e rfl snd_int))))) sndB_nil))))
theorem b5 (B : BltOk (cfgOf P w K mg base (defScope s5) n5 d5.pr k exA)) (F : FtOk (cfgOf P w K mg base (defScope s5) n5 d5.pr k exA) Φ (ft fa fdd) tt) (W : WX) : SndB (cfgOf P w K mg base (defScope s5) n5 d5.pr k exA) W (defBody s5) (evB Φ (shsOf tt) d5.body) :=
  (sndB_cons (sndS_ife (t_isN (so_v rfl)) (sndB_cons (sndS_ret (s_isN (so_v rfl))) sndB_nil) sndB_nil) (sndB_cons (sndS_ife (sndT_truth rfl (so_e rfl (s_isi B rfl rfl rfl rfl (so_v rfl)))) (sndB_cons (sndS_ife (SndW.t (sw_or1 (sndT_not (sndT_truth rfl (so_e rfl (s_isi B rfl rfl rfl rfl (so_v rfl))))) (t_cmp rfl (so_e rfl (s_b1 B rfl rfl rfl (so_v rfl))) (so_e rfl (s_b1 B rfl rfl rfl (so_v rfl)))))) (sndB_cons (sndS_ret snd_bl) sndB_nil) sndB_nil) (sndB_cons (sndS_for pr_cfg rfl (ninOf rfl) rfl (sndI_rng1 rfl (B "range" (by decide)) rfl (sa_e rfl rfl (s_b1 B rfl rfl rfl (so_v rfl)) sndA_nil) rfl) (sndB_cons (sndS_ife (sndT_not (sndT_truth rfl (so_e rfl (snd_call (fi := ⟨"_law_same", fa 5, fdd 5, ["actual", "expected"]⟩) F rfl rfl rfl rfl rfl rfl (sa_e rfl rfl (s_ix rfl (so_v rfl) (so_v rfl)) (sa_e rfl rfl (s_ix rfl (so_v rfl) (so_v rfl)) sndA_nil)))))) (sndB_cons (sndS_ret snd_bl) sndB_nil) sndB_nil) sndB_nil)) (sndB_cons (sndS_ret snd_bl) sndB_nil))) sndB_nil) (sndB_cons (sndS_ife (sndT_truth rfl (so_e rfl (s_isi B rfl rfl rfl rfl (so_v rfl)))) (sndB_cons (sndS_ret (snd_andN (s_isi B rfl rfl rfl rfl (so_v rfl)) (snd_one (s_cmp rfl (so_v rfl) (so_v rfl))))) sndB_nil) sndB_nil) (sndB_cons (sndS_ife (sndT_truth rfl (so_e rfl (s_isi B rfl rfl rfl rfl (so_v rfl)))) (sndB_cons (sndS_ret (snd_andN (s_isi B rfl rfl rfl rfl (so_v rfl)) (snd_one (s_cmp rfl (so_v rfl) (so_v rfl))))) sndB_nil) sndB_nil) (sndB_cons (sndS_ret (snd_andN (s_isi B rfl rfl rfl rfl (so_v rfl)) (snd_andN (snd_not (s_isi B rfl rfl rfl rfl (so_v rfl))) (snd_one (s_cmp rfl (so_v rfl) (so_v rfl)))))) sndB_nil)))))
theorem b6 (B : BltOk (cfgOf P w K mg base (defScope s6) n6 d6.pr k exA)) (F : FtOk (cfgOf P w K mg base (defScope s6) n6 d6.pr k exA) Φ (ft fa fdd) tt) (W : WX) : SndB (cfgOf P w K mg base (defScope s6) n6 d6.pr k exA) W (defBody s6) (evB Φ (shsOf tt) d6.body) :=
  (sndB_cons (sndS_asgN pr_cfg rfl rfl rfl (snd_lst sndA_nil)) (sndB_cons (sndS_for pr_cfg rfl (ninOf rfl) rfl (sndI_rng1 rfl (B "range" (by decide)) rfl (sa_e rfl rfl (s_add (so_e rfl snd_int) (so_e rfl (snd_call (fi := ⟨"_law_draw", fa 4, fdd 4, ["tape", "many"]⟩) F rfl rfl rfl rfl rfl rfl (sa_b rfl (sa_e rfl rfl snd_int sndA_nil))))) sndA_nil) rfl) (sndB_cons (sndS_ife (t_cmp rfl (so_e rfl (snd_call (fi := ⟨"_law_draw", fa 4, fdd 4, ["tape", "many"]⟩) F rfl rfl rfl rfl rfl rfl (sa_b rfl (sa_e rfl rfl snd_int sndA_nil)))) (so_e rfl snd_int)) (sndB_cons (sndS_expr rfl (s_app rfl rfl rfl (by decide) (sa_e rfl rfl snd_non sndA_nil))) sndB_nil) (sndB_cons (sndS_expr rfl (s_app rfl rfl rfl (by decide) (sa_e rfl rfl (snd_call (fi := ⟨"_law_draw", fa 4, fdd 4, ["tape", "many"]⟩) F rfl rfl rfl rfl rfl rfl (sa_b rfl (sa_e rfl rfl (snd_var rfl) sndA_nil))) sndA_nil))) sndB_nil)) sndB_nil)) (sndB_cons (sndS_ret (s_b1 B rfl rfl rfl (so_v rfl))) sndB_nil)))
theorem b7 (B : BltOk (cfgOf P w K mg base (defScope s7) n7 d7.pr k exA)) (F : FtOk (cfgOf P w K mg base (defScope s7) n7 d7.pr k exA) Φ (ft fa fdd) tt) (W : WX) : SndB (cfgOf P w K mg base (defScope s7) n7 d7.pr k exA) W (defBody s7) (evB Φ (shsOf tt) d7.body) :=
  (sndB_cons (sndS_asgN pr_cfg rfl rfl rfl (s_ix rfl (so_e rfl (snd_lst (sa_e rfl rfl snd_int (sa_e rfl rfl snd_int (sa_e rfl rfl snd_int (sa_e rfl rfl snd_int sndA_nil)))))) (so_e rfl (snd_call (fi := ⟨"_law_draw", fa 4, fdd 4, ["tape", "many"]⟩) F rfl rfl rfl rfl rfl rfl (sa_b rfl (sa_e rfl rfl snd_int sndA_nil)))))) (sndB_cons (sndS_asgN pr_cfg rfl rfl rfl (snd_lst sndA_nil)) (sndB_cons (sndS_for pr_cfg rfl (ninOf rfl) rfl (sndI_rng1 rfl (B "range" (by decide)) rfl (sa_e rfl rfl (s_add (so_e rfl snd_int) (so_e rfl (snd_call (fi := ⟨"_law_draw", fa 4, fdd 4, ["tape", "many"]⟩) F rfl rfl rfl rfl rfl rfl (sa_b rfl (sa_e rfl rfl (snd_var rfl) sndA_nil))))) sndA_nil) rfl) (sndB_cons (sndS_expr rfl (s_app rfl rfl rfl (by decide) (sa_e rfl rfl (snd_call (fi := ⟨"_law_holders", fa 6, fdd 6, ["tape", "top"]⟩) F rfl rfl rfl rfl rfl rfl (sa_b rfl (sa_e rfl rfl (snd_var rfl) sndA_nil))) sndA_nil))) sndB_nil)) (sndB_cons (sndS_ret (s_b1 B rfl rfl rfl (so_v rfl))) sndB_nil))))
theorem b8 (B : BltOk (cfgOf P w K mg base (defScope s8) n8 d8.pr k exA)) (F : FtOk (cfgOf P w K mg base (defScope s8) n8 d8.pr k exA) Φ (ft fa fdd) tt) (W : WX) : SndB (cfgOf P w K mg base (defScope s8) n8 d8.pr k exA) W (defBody s8) (evB Φ (shsOf tt) d8.body) :=
  (sndB_cons (sndS_ret (s_join rfl rfl rfl (so_e rfl snd_str) (so_e rfl (snd_comp rfl rfl (inOf rfl) rfl (sndI_rng1 rfl (B "range" (by decide)) rfl (sa_e rfl rfl (snd_var rfl) sndA_nil) rfl) sndC_nil (s_ix rfl (so_e rfl snd_str) (so_e rfl (snd_call (fi := ⟨"_law_draw", fa 4, fdd 4, ["tape", "many"]⟩) (F.blk _) rfl rfl rfl rfl rfl rfl (sa_b rfl (sa_e rfl rfl snd_int sndA_nil))))))))) sndB_nil)
theorem b9 (B : BltOk (cfgOf P w K mg base (defScope s9) n9 d9.pr k exA)) (F : FtOk (cfgOf P w K mg base (defScope s9) n9 d9.pr k exA) Φ (ft fa fdd) tt) (W : WX) : SndB (cfgOf P w K mg base (defScope s9) n9 d9.pr k exA) W (defBody s9) (evB Φ (shsOf tt) d9.body) :=
  (sndB_cons (sndS_ife (t_cmp rfl (so_v rfl) (so_e rfl (s_b1 B rfl rfl rfl (so_v rfl)))) (sndB_cons (sndS_ret (snd_tup (sa_e rfl rfl snd_int (sa_e rfl rfl snd_int (sa_e rfl rfl snd_int (sa_e rfl rfl snd_int sndA_nil)))))) sndB_nil) sndB_nil) (sndB_cons (sndS_asgN pr_cfg rfl rfl rfl (snd_lst (sa_e rfl rfl snd_int (sa_e rfl rfl snd_int (sa_e rfl rfl snd_int sndA_nil))))) (sndB_cons (sndS_for pr_cfg rfl (ninOf rfl) rfl (sndI_seq rfl (s_ix rfl (so_v rfl) (so_v rfl))) (sndB_cons (sndS_ife (SndW.t (sw_and (t_notN (so_v rfl)) (sw_and1 (t_cmp rfl (so_v rfl) (so_e rfl (s_b1 B rfl rfl rfl (so_v rfl)))) (t_cmp rfl (so_e rfl (s_ix rfl (so_v rfl) (so_v rfl))) (so_e rfl snd_str))))) (sndB_cons (sndS_asgN pr_cfg rfl rfl rfl (s_sidx rfl rfl rfl (so_e rfl snd_str) (so_e rfl (s_ix rfl (so_v rfl) (so_v rfl))))) (sndB_cons (sndS_sti rfl rfl rfl (snd_var rfl) (s_add (so_e rfl (s_ix rfl (so_v rfl) (so_v rfl))) (so_e rfl snd_int))) sndB_nil)) sndB_nil) sndB_nil)) (sndB_cons (sndS_ret (snd_tup (sa_e rfl rfl (s_b1 B rfl rfl rfl (so_e rfl (s_ix rfl (so_v rfl) (so_v rfl)))) (sa_e rfl rfl (s_ix rfl (so_v rfl) (so_e rfl snd_int)) (sa_e rfl rfl (s_ix rfl (so_v rfl) (so_e rfl snd_int)) (sa_e rfl rfl (s_ix rfl (so_v rfl) (so_e rfl snd_int)) sndA_nil)))))) sndB_nil))))
theorem b10 (B : BltOk (cfgOf P w K mg base (defScope s10) n10 d10.pr k exA)) (F : FtOk (cfgOf P w K mg base (defScope s10) n10 d10.pr k exA) Φ (ft fa fdd) tt) (W : WX) : SndB (cfgOf P w K mg base (defScope s10) n10 d10.pr k exA) W (defBody s10) (evB Φ (shsOf tt) d10.body) :=
  (sndB_cons (sndS_asgN pr_cfg rfl rfl rfl (snd_call (fi := ⟨"_law_tape", fa 3, fdd 3, ["script"]⟩) F rfl rfl rfl rfl rfl rfl (sa_e rfl rfl (snd_var rfl) sndA_nil))) (sndB_cons (sndS_asgN pr_cfg rfl rfl rfl (snd_call (fi := ⟨"_law_seats", fa 7, fdd 7, ["tape", "most"]⟩) F rfl rfl rfl rfl rfl rfl (sa_b rfl (sa_e rfl rfl snd_int sndA_nil)))) (sndB_cons (sndS_asgN pr_cfg rfl rfl rfl (snd_call (fi := ⟨"_law_roll", fa 8, fdd 8, ["tape", "many"]⟩) F rfl rfl rfl rfl rfl rfl (sa_b rfl (sa_e rfl rfl (snd_call (fi := ⟨"_law_draw", fa 4, fdd 4, ["tape", "many"]⟩) F rfl rfl rfl rfl rfl rfl (sa_b rfl (sa_e rfl rfl snd_int sndA_nil))) sndA_nil)))) (sndB_cons (sndS_asgN pr_cfg rfl rfl rfl (snd_call (fi := ⟨"_law_roll", fa 8, fdd 8, ["tape", "many"]⟩) F rfl rfl rfl rfl rfl rfl (sa_b rfl (sa_e rfl rfl (snd_call (fi := ⟨"_law_draw", fa 4, fdd 4, ["tape", "many"]⟩) F rfl rfl rfl rfl rfl rfl (sa_b rfl (sa_e rfl rfl snd_int sndA_nil))) sndA_nil)))) (sndB_cons (sndS_for pr_cfg rfl (ninOf rfl) rfl (sndI_seq rfl (snd_lst (sa_e rfl rfl (snd_lst (sa_e rfl rfl (snd_var rfl) (sa_e rfl rfl (snd_var rfl) sndA_nil))) (sa_e rfl rfl (snd_lst (sa_e rfl rfl (snd_var rfl) (sa_e rfl rfl (snd_var rfl) sndA_nil))) (sa_e rfl rfl (snd_lst (sa_e rfl rfl (snd_call (fi := ⟨"_law_seats", fa 7, fdd 7, ["tape", "most"]⟩) F rfl rfl rfl rfl rfl rfl (sa_b rfl (sa_e rfl rfl snd_int sndA_nil))) (sa_e rfl rfl (snd_var rfl) sndA_nil))) sndA_nil))))) (sndB_cons (sndS_for pr_cfg rfl (ninOf rfl) rfl (sndI_rng1 rfl (B "range" (by decide)) rfl (sa_e rfl rfl snd_int sndA_nil) rfl) (sndB_cons (sndS_ife (sndT_not (sndT_truth rfl (so_e rfl (snd_call (fi := ⟨"_law_same", fa 5, fdd 5, ["actual", "expected"]⟩) F rfl rfl rfl rfl rfl rfl (sa_e rfl rfl (snd_call (fi := ⟨"tally", fa 2, fdd 2, ["seats", "roll_call", "chamber"]⟩) F rfl rfl rfl rfl rfl rfl (sa_e rfl rfl (s_ix rfl (so_v rfl) (so_e rfl snd_int)) (sa_e rfl rfl (s_ix rfl (so_v rfl) (so_e rfl snd_int)) (sa_e rfl rfl (snd_var rfl) sndA_nil)))) (sa_e rfl rfl (snd_call (fi := ⟨"_law_tally", fa 9, fdd 9, ["seats", "roll", "chamber"]⟩) F rfl rfl rfl rfl rfl rfl (sa_e rfl rfl (s_ix rfl (so_v rfl) (so_e rfl snd_int)) (sa_e rfl rfl (s_ix rfl (so_v rfl) (so_e rfl snd_int)) (sa_e rfl rfl (snd_var rfl) sndA_nil)))) sndA_nil)))))) (sndB_cons (sndS_ret snd_bl) sndB_nil) sndB_nil) sndB_nil)) sndB_nil)) (sndB_cons (sndS_ret snd_bl) sndB_nil))))))
end
end K00
namespace K00
open PySem PySem.Spec PyProof.Rows L2 G
theorem c0 : FnScope n0 ["seats", "chamber"] (defScope s0) := ⟨rfl, rfl, rfl, by decide +kernel, rfl, by decide +kernel, by decide +kernel⟩
theorem c1 : FnScope n1 ["roll_call", "member"] (defScope s1) := ⟨rfl, rfl, rfl, by decide +kernel, rfl, by decide +kernel, by decide +kernel⟩
theorem c2 : FnScope n2 ["seats", "roll_call", "chamber"] (defScope s2) := ⟨rfl, rfl, rfl, by decide +kernel, rfl, by decide +kernel, by decide +kernel⟩
theorem c3 : FnScope n3 ["script"] (defScope s3) := ⟨rfl, rfl, rfl, by decide +kernel, rfl, by decide +kernel, by decide +kernel⟩
theorem c4 : FnScope n4 ["tape", "many"] (defScope s4) := ⟨rfl, rfl, rfl, by decide +kernel, rfl, by decide +kernel, by decide +kernel⟩
theorem c5 : FnScope n5 ["actual", "expected"] (defScope s5) := ⟨rfl, rfl, rfl, by decide +kernel, rfl, by decide +kernel, by decide +kernel⟩
theorem c6 : FnScope n6 ["tape", "top"] (defScope s6) := ⟨rfl, rfl, rfl, by decide +kernel, rfl, by decide +kernel, by decide +kernel⟩
theorem c7 : FnScope n7 ["tape", "most"] (defScope s7) := ⟨rfl, rfl, rfl, by decide +kernel, rfl, by decide +kernel, by decide +kernel⟩
theorem c8 : FnScope n8 ["tape", "many"] (defScope s8) := ⟨rfl, rfl, rfl, by decide +kernel, rfl, by decide +kernel, by decide +kernel⟩
theorem c9 : FnScope n9 ["seats", "roll", "chamber"] (defScope s9) := ⟨rfl, rfl, rfl, by decide +kernel, rfl, by decide +kernel, by decide +kernel⟩
theorem c10 : FnScope n10 ["script"] (defScope s10) := ⟨rfl, rfl, rfl, by decide +kernel, rfl, by decide +kernel, by decide +kernel⟩
def dfs : List Df := [d0, d1, d2, d3, d4, d5, d6, d7, d8, d9, d10]
section
variable {P : Program} {w : World} {K : PySem.W.Frag} {mg : Str → Option Value} {base : Heap} {fa : Nat → Addr} {fdd : Nat → FuncData}
theorem sh_all (e0 : ShOk K (fdd 0) ["seats", "chamber"] [] 2 ((List.range 2).map .inl)) (e1 : ShOk K (fdd 1) ["roll_call", "member"] [] 2 ((List.range 2).map .inl)) (e2 : ShOk K (fdd 2) ["seats", "roll_call", "chamber"] [] 3 ((List.range 3).map .inl)) (e3 : ShOk K (fdd 3) ["script"] [] 1 ((List.range 1).map .inl)) (e4 : ShOk K (fdd 4) ["tape", "many"] [] 2 ((List.range 2).map .inl)) (e5 : ShOk K (fdd 5) ["actual", "expected"] [] 2 ((List.range 2).map .inl)) (e6 : ShOk K (fdd 6) ["tape", "top"] [] 2 ((List.range 2).map .inl)) (e7 : ShOk K (fdd 7) ["tape", "most"] [] 2 ((List.range 2).map .inl)) (e8 : ShOk K (fdd 8) ["tape", "many"] [] 2 ((List.range 2).map .inl)) (e9 : ShOk K (fdd 9) ["seats", "roll", "chamber"] [] 3 ((List.range 3).map .inl)) (e10 : ShOk K (fdd 10) ["script"] [] 1 ((List.range 1).map .inl)) : ∀ i fi j np ks sh, ft fa fdd i = some fi → tt i j = some (np, ks, sh) → ShOk K fi.fd fi.ps ks np sh := by
  intro i fi j np ks sh h1 h2
  match i, j, h1, h2 with
  | 0, 0, h1, h2 => cases h1; cases h2; exact e0
  | 0, j + 1, h1, h2 => simp [tt, tab] at h2
  | 1, 0, h1, h2 => cases h1; cases h2; exact e1
  | 1, j + 1, h1, h2 => simp [tt, tab] at h2
  | 2, 0, h1, h2 => cases h1; cases h2; exact e2
  | 2, j + 1, h1, h2 => simp [tt, tab] at h2
  | 3, 0, h1, h2 => cases h1; cases h2; exact e3
  | 3, j + 1, h1, h2 => simp [tt, tab] at h2
  | 4, 0, h1, h2 => cases h1; cases h2; exact e4
  | 4, j + 1, h1, h2 => simp [tt, tab] at h2
  | 5, 0, h1, h2 => cases h1; cases h2; exact e5
  | 5, j + 1, h1, h2 => simp [tt, tab] at h2
  | 6, 0, h1, h2 => cases h1; cases h2; exact e6
  | 6, j + 1, h1, h2 => simp [tt, tab] at h2
  | 7, 0, h1, h2 => cases h1; cases h2; exact e7
  | 7, j + 1, h1, h2 => simp [tt, tab] at h2
  | 8, 0, h1, h2 => cases h1; cases h2; exact e8
  | 8, j + 1, h1, h2 => simp [tt, tab] at h2
  | 9, 0, h1, h2 => cases h1; cases h2; exact e9
  | 9, j + 1, h1, h2 => simp [tt, tab] at h2
  | 10, 0, h1, h2 => cases h1; cases h2; exact e10
  | 10, j + 1, h1, h2 => simp [tt, tab] at h2
  | i + 11, j, h1, h2 => simp [ft, nms] at h1
abbrev c00 (P : Program) (w : World) (K : PySem.W.Frag) (mg : Str → Option Value) (base : Heap) (k : Nat) : Cfg := cfgOf P w K mg base (defScope s0) [] [] k (fun _ => none)
theorem up0 {k : Nat} (F : Fun K "holders_of" "holders_of" s0 (fa 0) (fdd 0)) (B : ∀ x ∈ bnames, mg x = none) (T : FtOk (c00 P w K mg base k) (calls dfs (shsOf tt) k) (ft fa fdd) tt) : FnOk P w K mg base (L2.CX P w) (k + 1) (fa 0) (fdd 0) ["seats", "chamber"] (spOf (c00 P w K mg base (k + 1)) (calls dfs (shsOf tt) (k + 1)) 0 2) :=
  df_ok (C0 := c00 P w K mg base (k + 1)) (exA := fun _ => none) (d := d0) (Φ := calls dfs (shsOf tt) k) (shs := shsOf tt) rfl rfl F c0 rfl (b0 B (ft_move T)) (fun ss => calls_succ rfl)
theorem up1 {k : Nat} (F : Fun K "vote_of" "vote_of" s1 (fa 1) (fdd 1)) (B : ∀ x ∈ bnames, mg x = none) (T : FtOk (c00 P w K mg base k) (calls dfs (shsOf tt) k) (ft fa fdd) tt) : FnOk P w K mg base (L2.CX P w) (k + 1) (fa 1) (fdd 1) ["roll_call", "member"] (spOf (c00 P w K mg base (k + 1)) (calls dfs (shsOf tt) (k + 1)) 1 2) :=
  df_ok (C0 := c00 P w K mg base (k + 1)) (exA := fun _ => none) (d := d1) (Φ := calls dfs (shsOf tt) k) (shs := shsOf tt) rfl rfl F c1 rfl (b1 B (ft_move T)) (fun ss => calls_succ rfl)
theorem up2 {k : Nat} (F : Fun K "tally" "tally" s2 (fa 2) (fdd 2)) (B : ∀ x ∈ bnames, mg x = none) (T : FtOk (c00 P w K mg base k) (calls dfs (shsOf tt) k) (ft fa fdd) tt) : FnOk P w K mg base (L2.CX P w) (k + 1) (fa 2) (fdd 2) ["seats", "roll_call", "chamber"] (spOf (c00 P w K mg base (k + 1)) (calls dfs (shsOf tt) (k + 1)) 2 3) :=
  df_ok (C0 := c00 P w K mg base (k + 1)) (exA := fun _ => none) (d := d2) (Φ := calls dfs (shsOf tt) k) (shs := shsOf tt) rfl rfl F c2 rfl (b2 B (ft_move T)) (fun ss => calls_succ rfl)
theorem up3 {k : Nat} (F : Fun K "_law_tape" "_law_tape" s3 (fa 3) (fdd 3)) (B : ∀ x ∈ bnames, mg x = none) (T : FtOk (c00 P w K mg base k) (calls dfs (shsOf tt) k) (ft fa fdd) tt) : FnOk P w K mg base (L2.CX P w) (k + 1) (fa 3) (fdd 3) ["script"] (spOf (c00 P w K mg base (k + 1)) (calls dfs (shsOf tt) (k + 1)) 3 1) :=
  df_ok (C0 := c00 P w K mg base (k + 1)) (exA := fun _ => none) (d := d3) (Φ := calls dfs (shsOf tt) k) (shs := shsOf tt) rfl rfl F c3 rfl (b3 B (ft_move T)) (fun ss => calls_succ rfl)
theorem up4 {k : Nat} (F : Fun K "_law_draw" "_law_draw" s4 (fa 4) (fdd 4)) (B : ∀ x ∈ bnames, mg x = none) (T : FtOk (c00 P w K mg base k) (calls dfs (shsOf tt) k) (ft fa fdd) tt) : FnOk P w K mg base (L2.CX P w) (k + 1) (fa 4) (fdd 4) ["tape", "many"] (spOf (c00 P w K mg base (k + 1)) (calls dfs (shsOf tt) (k + 1)) 4 2) :=
  df_ok (C0 := c00 P w K mg base (k + 1)) (exA := fun _ => none) (d := d4) (Φ := calls dfs (shsOf tt) k) (shs := shsOf tt) rfl rfl F c4 rfl (b4 B (ft_move T)) (fun ss => calls_succ rfl)
theorem up5 {k : Nat} (F : Fun K "_law_same" "_law_same" s5 (fa 5) (fdd 5)) (B : ∀ x ∈ bnames, mg x = none) (T : FtOk (c00 P w K mg base k) (calls dfs (shsOf tt) k) (ft fa fdd) tt) : FnOk P w K mg base (L2.CX P w) (k + 1) (fa 5) (fdd 5) ["actual", "expected"] (spOf (c00 P w K mg base (k + 1)) (calls dfs (shsOf tt) (k + 1)) 5 2) :=
  df_ok (C0 := c00 P w K mg base (k + 1)) (exA := fun _ => none) (d := d5) (Φ := calls dfs (shsOf tt) k) (shs := shsOf tt) rfl rfl F c5 rfl (b5 B (ft_move T)) (fun ss => calls_succ rfl)
theorem up6 {k : Nat} (F : Fun K "_law_holders" "_law_holders" s6 (fa 6) (fdd 6)) (B : ∀ x ∈ bnames, mg x = none) (T : FtOk (c00 P w K mg base k) (calls dfs (shsOf tt) k) (ft fa fdd) tt) : FnOk P w K mg base (L2.CX P w) (k + 1) (fa 6) (fdd 6) ["tape", "top"] (spOf (c00 P w K mg base (k + 1)) (calls dfs (shsOf tt) (k + 1)) 6 2) :=
  df_ok (C0 := c00 P w K mg base (k + 1)) (exA := fun _ => none) (d := d6) (Φ := calls dfs (shsOf tt) k) (shs := shsOf tt) rfl rfl F c6 rfl (b6 B (ft_move T)) (fun ss => calls_succ rfl)
theorem up7 {k : Nat} (F : Fun K "_law_seats" "_law_seats" s7 (fa 7) (fdd 7)) (B : ∀ x ∈ bnames, mg x = none) (T : FtOk (c00 P w K mg base k) (calls dfs (shsOf tt) k) (ft fa fdd) tt) : FnOk P w K mg base (L2.CX P w) (k + 1) (fa 7) (fdd 7) ["tape", "most"] (spOf (c00 P w K mg base (k + 1)) (calls dfs (shsOf tt) (k + 1)) 7 2) :=
  df_ok (C0 := c00 P w K mg base (k + 1)) (exA := fun _ => none) (d := d7) (Φ := calls dfs (shsOf tt) k) (shs := shsOf tt) rfl rfl F c7 rfl (b7 B (ft_move T)) (fun ss => calls_succ rfl)
theorem up8 {k : Nat} (F : Fun K "_law_roll" "_law_roll" s8 (fa 8) (fdd 8)) (B : ∀ x ∈ bnames, mg x = none) (T : FtOk (c00 P w K mg base k) (calls dfs (shsOf tt) k) (ft fa fdd) tt) : FnOk P w K mg base (L2.CX P w) (k + 1) (fa 8) (fdd 8) ["tape", "many"] (spOf (c00 P w K mg base (k + 1)) (calls dfs (shsOf tt) (k + 1)) 8 2) :=
  df_ok (C0 := c00 P w K mg base (k + 1)) (exA := fun _ => none) (d := d8) (Φ := calls dfs (shsOf tt) k) (shs := shsOf tt) rfl rfl F c8 rfl (b8 B (ft_move T)) (fun ss => calls_succ rfl)
theorem up9 {k : Nat} (F : Fun K "_law_tally" "_law_tally" s9 (fa 9) (fdd 9)) (B : ∀ x ∈ bnames, mg x = none) (T : FtOk (c00 P w K mg base k) (calls dfs (shsOf tt) k) (ft fa fdd) tt) : FnOk P w K mg base (L2.CX P w) (k + 1) (fa 9) (fdd 9) ["seats", "roll", "chamber"] (spOf (c00 P w K mg base (k + 1)) (calls dfs (shsOf tt) (k + 1)) 9 3) :=
  df_ok (C0 := c00 P w K mg base (k + 1)) (exA := fun _ => none) (d := d9) (Φ := calls dfs (shsOf tt) k) (shs := shsOf tt) rfl rfl F c9 rfl (b9 B (ft_move T)) (fun ss => calls_succ rfl)
theorem up10 {k : Nat} (F : Fun K "law" "law" s10 (fa 10) (fdd 10)) (B : ∀ x ∈ bnames, mg x = none) (T : FtOk (c00 P w K mg base k) (calls dfs (shsOf tt) k) (ft fa fdd) tt) : FnOk P w K mg base (L2.CX P w) (k + 1) (fa 10) (fdd 10) ["script"] (spOf (c00 P w K mg base (k + 1)) (calls dfs (shsOf tt) (k + 1)) 10 1) :=
  df_ok (C0 := c00 P w K mg base (k + 1)) (exA := fun _ => none) (d := d10) (Φ := calls dfs (shsOf tt) k) (shs := shsOf tt) rfl rfl F c10 rfl (b10 B (ft_move T)) (fun ss => calls_succ rfl)
theorem lv (F0 : Fun K "holders_of" "holders_of" s0 (fa 0) (fdd 0)) (F1 : Fun K "vote_of" "vote_of" s1 (fa 1) (fdd 1)) (F2 : Fun K "tally" "tally" s2 (fa 2) (fdd 2)) (F3 : Fun K "_law_tape" "_law_tape" s3 (fa 3) (fdd 3)) (F4 : Fun K "_law_draw" "_law_draw" s4 (fa 4) (fdd 4)) (F5 : Fun K "_law_same" "_law_same" s5 (fa 5) (fdd 5)) (F6 : Fun K "_law_holders" "_law_holders" s6 (fa 6) (fdd 6)) (F7 : Fun K "_law_seats" "_law_seats" s7 (fa 7) (fdd 7)) (F8 : Fun K "_law_roll" "_law_roll" s8 (fa 8) (fdd 8)) (F9 : Fun K "_law_tally" "_law_tally" s9 (fa 9) (fdd 9)) (F10 : Fun K "law" "law" s10 (fa 10) (fdd 10))
    (g0 : mg "holders_of" = some (.ref (fa 0))) (g1 : mg "vote_of" = some (.ref (fa 1))) (g2 : mg "tally" = some (.ref (fa 2))) (g3 : mg "_law_tape" = some (.ref (fa 3))) (g4 : mg "_law_draw" = some (.ref (fa 4))) (g5 : mg "_law_same" = some (.ref (fa 5))) (g6 : mg "_law_holders" = some (.ref (fa 6))) (g7 : mg "_law_seats" = some (.ref (fa 7))) (g8 : mg "_law_roll" = some (.ref (fa 8))) (g9 : mg "_law_tally" = some (.ref (fa 9))) (g10 : mg "law" = some (.ref (fa 10)))
    (e0 : ShOk K (fdd 0) ["seats", "chamber"] [] 2 ((List.range 2).map .inl)) (e1 : ShOk K (fdd 1) ["roll_call", "member"] [] 2 ((List.range 2).map .inl)) (e2 : ShOk K (fdd 2) ["seats", "roll_call", "chamber"] [] 3 ((List.range 3).map .inl)) (e3 : ShOk K (fdd 3) ["script"] [] 1 ((List.range 1).map .inl)) (e4 : ShOk K (fdd 4) ["tape", "many"] [] 2 ((List.range 2).map .inl)) (e5 : ShOk K (fdd 5) ["actual", "expected"] [] 2 ((List.range 2).map .inl)) (e6 : ShOk K (fdd 6) ["tape", "top"] [] 2 ((List.range 2).map .inl)) (e7 : ShOk K (fdd 7) ["tape", "most"] [] 2 ((List.range 2).map .inl)) (e8 : ShOk K (fdd 8) ["tape", "many"] [] 2 ((List.range 2).map .inl)) (e9 : ShOk K (fdd 9) ["seats", "roll", "chamber"] [] 3 ((List.range 3).map .inl)) (e10 : ShOk K (fdd 10) ["script"] [] 1 ((List.range 1).map .inl))
    (B : ∀ x ∈ bnames, mg x = none) (k : Nat) : FtOk (c00 P w K mg base k) (calls dfs (shsOf tt) k) (ft fa fdd) tt := by
  induction k with
  | zero =>
    refine ⟨fun i fi h => ?_, sh_all e0 e1 e2 e3 e4 e5 e6 e7 e8 e9 e10⟩
    match i, h with
    | 0, h => cases h; exact ⟨g0, F0.kp, fn_zero⟩
    | 1, h => cases h; exact ⟨g1, F1.kp, fn_zero⟩
    | 2, h => cases h; exact ⟨g2, F2.kp, fn_zero⟩
    | 3, h => cases h; exact ⟨g3, F3.kp, fn_zero⟩
    | 4, h => cases h; exact ⟨g4, F4.kp, fn_zero⟩
    | 5, h => cases h; exact ⟨g5, F5.kp, fn_zero⟩
    | 6, h => cases h; exact ⟨g6, F6.kp, fn_zero⟩
    | 7, h => cases h; exact ⟨g7, F7.kp, fn_zero⟩
    | 8, h => cases h; exact ⟨g8, F8.kp, fn_zero⟩
    | 9, h => cases h; exact ⟨g9, F9.kp, fn_zero⟩
    | 10, h => cases h; exact ⟨g10, F10.kp, fn_zero⟩
    | i + 11, h => simp [ft, nms] at h
  | succ k ih =>
    refine ⟨fun i fi h => ?_, sh_all e0 e1 e2 e3 e4 e5 e6 e7 e8 e9 e10⟩
    match i, h with
    | 0, h => cases h; exact ⟨g0, F0.kp, up0 F0 B ih⟩
    | 1, h => cases h; exact ⟨g1, F1.kp, up1 F1 B ih⟩
    | 2, h => cases h; exact ⟨g2, F2.kp, up2 F2 B ih⟩
    | 3, h => cases h; exact ⟨g3, F3.kp, up3 F3 B ih⟩
    | 4, h => cases h; exact ⟨g4, F4.kp, up4 F4 B ih⟩
    | 5, h => cases h; exact ⟨g5, F5.kp, up5 F5 B ih⟩
    | 6, h => cases h; exact ⟨g6, F6.kp, up6 F6 B ih⟩
    | 7, h => cases h; exact ⟨g7, F7.kp, up7 F7 B ih⟩
    | 8, h => cases h; exact ⟨g8, F8.kp, up8 F8 B ih⟩
    | 9, h => cases h; exact ⟨g9, F9.kp, up9 F9 B ih⟩
    | 10, h => cases h; exact ⟨g10, F10.kp, up10 F10 B ih⟩
    | i + 11, h => simp [ft, nms] at h
end
theorem all_mk {l : PySem.W.OpenLaw} {w : World} {K : PySem.W.Frag} {h : Heap} {mg : Str → Option Value} {fl : Addr} (X : K.In h) (G : h.Ns mainGlobals mg) (hfa : mg "law" = some (.ref fl))
    {f0 f1 f2 f3 f4 f5 f6 f7 f8 f9 f10 : Addr} {od0 an0 od1 an1 od2 an2 od3 an3 od4 an4 od5 an5 od6 an6 od7 an7 od8 an8 od9 an9 od10 an10 : Option Addr} {sl0 sl1 sl2 sl3 sl4 sl5 sl6 sl7 sl8 sl9 sl10 : Array (Option Value)} {oc0 kV0 dc0 pm0 cd0 ct0 oc1 kV1 dc1 pm1 cd1 ct1 oc2 kV2 dc2 pm2 cd2 ct2 oc3 kV3 dc3 pm3 cd3 ct3 oc4 kV4 dc4 pm4 cd4 ct4 oc5 kV5 dc5 pm5 cd5 ct5 oc6 kV6 dc6 pm6 cd6 ct6 oc7 kV7 dc7 pm7 cd7 ct7 oc8 kV8 dc8 pm8 cd8 ct8 oc9 kV9 dc9 pm9 cd9 ct9 oc10 kV10 dc10 pm10 cd10 ct10 : Value}
    (a0 : PySem.W.nsIn K mainGlobals "holders_of" = some (some (.ref f0))) (l0 : K.lookup f0 = some ⟨oc0, od0, .func (PySem.W.fnOf "holders_of" "holders_of" (defArgs s0) (defBody s0) (defScope s0) .none kV0 dc0 pm0 an0 cd0 ct0), sl0⟩) (q0 : PySem.W.codeIn K cd0 "holders_of" = true) (k0 : PySem.W.keepIn K (.ref f0) = true)
    (a1 : PySem.W.nsIn K mainGlobals "vote_of" = some (some (.ref f1))) (l1 : K.lookup f1 = some ⟨oc1, od1, .func (PySem.W.fnOf "vote_of" "vote_of" (defArgs s1) (defBody s1) (defScope s1) .none kV1 dc1 pm1 an1 cd1 ct1), sl1⟩) (q1 : PySem.W.codeIn K cd1 "vote_of" = true) (k1 : PySem.W.keepIn K (.ref f1) = true)
    (a2 : PySem.W.nsIn K mainGlobals "tally" = some (some (.ref f2))) (l2 : K.lookup f2 = some ⟨oc2, od2, .func (PySem.W.fnOf "tally" "tally" (defArgs s2) (defBody s2) (defScope s2) .none kV2 dc2 pm2 an2 cd2 ct2), sl2⟩) (q2 : PySem.W.codeIn K cd2 "tally" = true) (k2 : PySem.W.keepIn K (.ref f2) = true)
    (a3 : PySem.W.nsIn K mainGlobals "_law_tape" = some (some (.ref f3))) (l3 : K.lookup f3 = some ⟨oc3, od3, .func (PySem.W.fnOf "_law_tape" "_law_tape" (defArgs s3) (defBody s3) (defScope s3) .none kV3 dc3 pm3 an3 cd3 ct3), sl3⟩) (q3 : PySem.W.codeIn K cd3 "_law_tape" = true) (k3 : PySem.W.keepIn K (.ref f3) = true)
    (a4 : PySem.W.nsIn K mainGlobals "_law_draw" = some (some (.ref f4))) (l4 : K.lookup f4 = some ⟨oc4, od4, .func (PySem.W.fnOf "_law_draw" "_law_draw" (defArgs s4) (defBody s4) (defScope s4) .none kV4 dc4 pm4 an4 cd4 ct4), sl4⟩) (q4 : PySem.W.codeIn K cd4 "_law_draw" = true) (k4 : PySem.W.keepIn K (.ref f4) = true)
    (a5 : PySem.W.nsIn K mainGlobals "_law_same" = some (some (.ref f5))) (l5 : K.lookup f5 = some ⟨oc5, od5, .func (PySem.W.fnOf "_law_same" "_law_same" (defArgs s5) (defBody s5) (defScope s5) .none kV5 dc5 pm5 an5 cd5 ct5), sl5⟩) (q5 : PySem.W.codeIn K cd5 "_law_same" = true) (k5 : PySem.W.keepIn K (.ref f5) = true)
    (a6 : PySem.W.nsIn K mainGlobals "_law_holders" = some (some (.ref f6))) (l6 : K.lookup f6 = some ⟨oc6, od6, .func (PySem.W.fnOf "_law_holders" "_law_holders" (defArgs s6) (defBody s6) (defScope s6) .none kV6 dc6 pm6 an6 cd6 ct6), sl6⟩) (q6 : PySem.W.codeIn K cd6 "_law_holders" = true) (k6 : PySem.W.keepIn K (.ref f6) = true)
    (a7 : PySem.W.nsIn K mainGlobals "_law_seats" = some (some (.ref f7))) (l7 : K.lookup f7 = some ⟨oc7, od7, .func (PySem.W.fnOf "_law_seats" "_law_seats" (defArgs s7) (defBody s7) (defScope s7) .none kV7 dc7 pm7 an7 cd7 ct7), sl7⟩) (q7 : PySem.W.codeIn K cd7 "_law_seats" = true) (k7 : PySem.W.keepIn K (.ref f7) = true)
    (a8 : PySem.W.nsIn K mainGlobals "_law_roll" = some (some (.ref f8))) (l8 : K.lookup f8 = some ⟨oc8, od8, .func (PySem.W.fnOf "_law_roll" "_law_roll" (defArgs s8) (defBody s8) (defScope s8) .none kV8 dc8 pm8 an8 cd8 ct8), sl8⟩) (q8 : PySem.W.codeIn K cd8 "_law_roll" = true) (k8 : PySem.W.keepIn K (.ref f8) = true)
    (a9 : PySem.W.nsIn K mainGlobals "_law_tally" = some (some (.ref f9))) (l9 : K.lookup f9 = some ⟨oc9, od9, .func (PySem.W.fnOf "_law_tally" "_law_tally" (defArgs s9) (defBody s9) (defScope s9) .none kV9 dc9 pm9 an9 cd9 ct9), sl9⟩) (q9 : PySem.W.codeIn K cd9 "_law_tally" = true) (k9 : PySem.W.keepIn K (.ref f9) = true)
    (a10 : PySem.W.nsIn K mainGlobals "law" = some (some (.ref f10))) (l10 : K.lookup f10 = some ⟨oc10, od10, .func (PySem.W.fnOf "law" "law" (defArgs s10) (defBody s10) (defScope s10) .none kV10 dc10 pm10 an10 cd10 ct10), sl10⟩) (q10 : PySem.W.codeIn K cd10 "law" = true) (k10 : PySem.W.keepIn K (.ref f10) = true)
    (z0 : PySem.W.nsIn K mainGlobals "len" = some none) (z1 : PySem.W.nsIn K mainGlobals "abs" = some none) (z2 : PySem.W.nsIn K mainGlobals "int" = some none) (z3 : PySem.W.nsIn K mainGlobals "tuple" = some none) (z4 : PySem.W.nsIn K mainGlobals "list" = some none) (z5 : PySem.W.nsIn K mainGlobals "max" = some none) (z6 : PySem.W.nsIn K mainGlobals "min" = some none) (z7 : PySem.W.nsIn K mainGlobals "sum" = some none) (z8 : PySem.W.nsIn K mainGlobals "any" = some none) (z9 : PySem.W.nsIn K mainGlobals "all" = some none) (z10 : PySem.W.nsIn K mainGlobals "isinstance" = some none) (z11 : PySem.W.nsIn K mainGlobals "bool" = some none) (z12 : PySem.W.nsIn K mainGlobals "str" = some none) (z13 : PySem.W.nsIn K mainGlobals "range" = some none)
    (pure : ∀ ns : List Int, ns.length ≤ 63 → ∃ outs, calls dfs (shsOf tt) 12 10 [.val (.scr ns)] = .ok (.val (.bl true)) outs) :
    ∃ fd : FuncData, (∀ (s : Shared) (v : Value), BindsTo s fd ⟨[v], []⟩ [("script", v)]) ∧ ∀ base : Heap, K.In base → base.Ns mainGlobals mg → FnOk l.prog w K mg base (L2.CX l.prog w) 12 fl fd ["script"] (spLaw K) := by
  have e := hfa.symm.trans (PySem.W.mg_of X G a10)
  cases e
  have F0 := fun_mk (st := s0) l0 q0 k0
  have b0 := F0.binds (ps := ["seats", "chamber"]) fun _ _ _ _ _ _ us hl => match us, hl with | [_, _], _ => rfl
  have F1 := fun_mk (st := s1) l1 q1 k1
  have b1 := F1.binds (ps := ["roll_call", "member"]) fun _ _ _ _ _ _ us hl => match us, hl with | [_, _], _ => rfl
  have F2 := fun_mk (st := s2) l2 q2 k2
  have b2 := F2.binds (ps := ["seats", "roll_call", "chamber"]) fun _ _ _ _ _ _ us hl => match us, hl with | [_, _, _], _ => rfl
  have F3 := fun_mk (st := s3) l3 q3 k3
  have b3 := F3.binds (ps := ["script"]) fun _ _ _ _ _ _ us hl => match us, hl with | [_], _ => rfl
  have F4 := fun_mk (st := s4) l4 q4 k4
  have b4 := F4.binds (ps := ["tape", "many"]) fun _ _ _ _ _ _ us hl => match us, hl with | [_, _], _ => rfl
  have F5 := fun_mk (st := s5) l5 q5 k5
  have b5 := F5.binds (ps := ["actual", "expected"]) fun _ _ _ _ _ _ us hl => match us, hl with | [_, _], _ => rfl
  have F6 := fun_mk (st := s6) l6 q6 k6
  have b6 := F6.binds (ps := ["tape", "top"]) fun _ _ _ _ _ _ us hl => match us, hl with | [_, _], _ => rfl
  have F7 := fun_mk (st := s7) l7 q7 k7
  have b7 := F7.binds (ps := ["tape", "most"]) fun _ _ _ _ _ _ us hl => match us, hl with | [_, _], _ => rfl
  have F8 := fun_mk (st := s8) l8 q8 k8
  have b8 := F8.binds (ps := ["tape", "many"]) fun _ _ _ _ _ _ us hl => match us, hl with | [_, _], _ => rfl
  have F9 := fun_mk (st := s9) l9 q9 k9
  have b9 := F9.binds (ps := ["seats", "roll", "chamber"]) fun _ _ _ _ _ _ us hl => match us, hl with | [_, _, _], _ => rfl
  have F10 := fun_mk (st := s10) l10 q10 k10
  have b10 := F10.binds (ps := ["script"]) fun _ _ _ _ _ _ us hl => match us, hl with | [_], _ => rfl
  let fa : Nat → Addr := fun i => match i with | 0 => f0 | 1 => f1 | 2 => f2 | 3 => f3 | 4 => f4 | 5 => f5 | 6 => f6 | 7 => f7 | 8 => f8 | 9 => f9 | _ => fl
  let fdd : Nat → FuncData := fun i => match i with | 0 => PySem.W.fnOf "holders_of" "holders_of" (defArgs s0) (defBody s0) (defScope s0) .none kV0 dc0 pm0 an0 cd0 ct0 | 1 => PySem.W.fnOf "vote_of" "vote_of" (defArgs s1) (defBody s1) (defScope s1) .none kV1 dc1 pm1 an1 cd1 ct1 | 2 => PySem.W.fnOf "tally" "tally" (defArgs s2) (defBody s2) (defScope s2) .none kV2 dc2 pm2 an2 cd2 ct2 | 3 => PySem.W.fnOf "_law_tape" "_law_tape" (defArgs s3) (defBody s3) (defScope s3) .none kV3 dc3 pm3 an3 cd3 ct3 | 4 => PySem.W.fnOf "_law_draw" "_law_draw" (defArgs s4) (defBody s4) (defScope s4) .none kV4 dc4 pm4 an4 cd4 ct4 | 5 => PySem.W.fnOf "_law_same" "_law_same" (defArgs s5) (defBody s5) (defScope s5) .none kV5 dc5 pm5 an5 cd5 ct5 | 6 => PySem.W.fnOf "_law_holders" "_law_holders" (defArgs s6) (defBody s6) (defScope s6) .none kV6 dc6 pm6 an6 cd6 ct6 | 7 => PySem.W.fnOf "_law_seats" "_law_seats" (defArgs s7) (defBody s7) (defScope s7) .none kV7 dc7 pm7 an7 cd7 ct7 | 8 => PySem.W.fnOf "_law_roll" "_law_roll" (defArgs s8) (defBody s8) (defScope s8) .none kV8 dc8 pm8 an8 cd8 ct8 | 9 => PySem.W.fnOf "_law_tally" "_law_tally" (defArgs s9) (defBody s9) (defScope s9) .none kV9 dc9 pm9 an9 cd9 ct9 | _ => PySem.W.fnOf "law" "law" (defArgs s10) (defBody s10) (defScope s10) .none kV10 dc10 pm10 an10 cd10 ct10
  refine ⟨PySem.W.fnOf "law" "law" (defArgs s10) (defBody s10) (defScope s10) .none kV10 dc10 pm10 an10 cd10 ct10, fun s v => .of_eq rfl, fun base _ _ => ?_⟩
  have B : ∀ x ∈ bnames, mg x = none := by
    intro x hx
    simp only [bnames, List.mem_cons, List.not_mem_nil, or_false] at hx
    rcases hx with rfl | rfl | rfl | rfl | rfl | rfl | rfl | rfl | rfl | rfl | rfl | rfl | rfl | rfl
    · exact PySem.W.mg_none_of X G z0
    · exact PySem.W.mg_none_of X G z1
    · exact PySem.W.mg_none_of X G z2
    · exact PySem.W.mg_none_of X G z3
    · exact PySem.W.mg_none_of X G z4
    · exact PySem.W.mg_none_of X G z5
    · exact PySem.W.mg_none_of X G z6
    · exact PySem.W.mg_none_of X G z7
    · exact PySem.W.mg_none_of X G z8
    · exact PySem.W.mg_none_of X G z9
    · exact PySem.W.mg_none_of X G z10
    · exact PySem.W.mg_none_of X G z11
    · exact PySem.W.mg_none_of X G z12
    · exact PySem.W.mg_none_of X G z13
  have T := lv (P := l.prog) (w := w) (base := base) (fa := fa) (fdd := fdd) F0 F1 F2 F3 F4 F5 F6 F7 F8 F9 F10 (PySem.W.mg_of X G a0) (PySem.W.mg_of X G a1) (PySem.W.mg_of X G a2) (PySem.W.mg_of X G a3) (PySem.W.mg_of X G a4) (PySem.W.mg_of X G a5) (PySem.W.mg_of X G a6) (PySem.W.mg_of X G a7) (PySem.W.mg_of X G a8) (PySem.W.mg_of X G a9) (PySem.W.mg_of X G a10) (shok_pos 2 rfl b0) (shok_pos 2 rfl b1) (shok_pos 3 rfl b2) (shok_pos 1 rfl b3) (shok_pos 2 rfl b4) (shok_pos 2 rfl b5) (shok_pos 2 rfl b6) (shok_pos 2 rfl b7) (shok_pos 2 rfl b8) (shok_pos 3 rfl b9) (shok_pos 1 rfl b10) B 12
  exact (T.at_ 10 _ rfl).2.2.imp (law_imp rfl pure)
end K00
namespace K00
open PySem G
abbrev Φ (n : Nat) : Fn := calls dfs (shsOf tt) n
def Tp (tape : List D) : Prop := ∃ (xs : List Int) (p : Nat) (b s : Int), 0 ≤ b ∧ 0 ≤ s ∧ tape = [.lst (xs.map .int), .int p, .int b, .int s]
theorem pow18 : pPow (.int 10) (.int 18) = some (.val (.int 1000000000000000000)) := rfl
def DQ (m : Int) (f : Fl) (nv : Nv) : Prop := ∃ v tape' c d, f = .ret (.val (.int v)) ∧ nv = [some (.lv false tape'), some (.val (.int m)), c, d] ∧ Tp tape' ∧ 0 ≤ v ∧ v < (if 1 > m then 1 else m)
theorem mod_rng (a m : Int) : 0 ≤ a % (if m < 1 then 1 else m) ∧ a % (if m < 1 then 1 else m) < (if m < 1 then 1 else m) := by
  split
  · exact ⟨Int.emod_nonneg _ (by decide), Int.emod_lt_of_pos _ (by decide)⟩
  · exact ⟨Int.emod_nonneg _ (by omega), Int.emod_lt_of_pos _ (by omega)⟩
theorem pos_max (m : Int) : 0 < (if m < 1 then 1 else m) := by split <;> omega
theorem draw_end (n : Nat) (xs : List Int) (p : Nat) (b s m : Int) (c d : Option D) (hb : 0 ≤ b) (hs : 0 ≤ s) (hm : m < 1000000) :
    Wp (evB (Φ n) (shsOf tt) (d4.body.drop 1) [some (.lv false [.lst (xs.map .int), .int p, .int b, .int s]), some (.val (.int m)), c.map .val, d.map .val]) (DQ m) := by
  have h2 : (if m < 2 then 2 else m) < 1073741824 := by split <;> omega
  have h3 : 0 < (if m < 2 then 2 else m) := by split <;> omega
  have h4 := mod_rng b m
  have h5 := pos_max m
  refine wp_cons ?_
  have e1 : Wp (evS (Φ n) (shsOf tt) (.asg (.nm 3) (.op2 .ix (.var 0) (.int 2))) [some (.lv false [.lst (xs.map .int), .int p, .int b, .int s]), some (.val (.int m)), c.map .val, d.map .val]) (fun f nv => f = .nx ∧ nv = [some (.lv false [.lst (xs.map .int), .int p, .int b, .int s]), some (.val (.int m)), c.map .val, some (.val (.int b))]) := by
    cases d <;> simp [wp_ok, wp_stuck, wp_bind, wp_of, wp_nox, bind_ok, of_some, evS, evE, evOs, evCs, argStep, asgR, asgD, stSlot, rdVar, mvVar, R.slot, R.frz, opd, look, items, lstOf, inls, p1, p2, pAdd, pSub, pMul, pFdiv, pMod, pCmp, deq, pIx, pMax, pMin, pLen, pList, pTupl, pIsi, mthOn, mthD, stIx, L2.ixN, L2.atI, callOn, arrO, slotsOf, brws, putBack, wipeN, back, recv, pm]
  refine e1.imp ?_
  rintro f nv ⟨rfl, rfl⟩
  refine wp_cons ?_
  have e2 : Wp (evS (Φ n) (shsOf tt) (.sti 0 (.int 2) (.op2 .fdiv (.var 3) (.op2 .max (.var 1) (.int 2)))) [some (.lv false [.lst (xs.map .int), .int p, .int b, .int s]), some (.val (.int m)), c.map .val, some (.val (.int b))]) (fun f nv => f = .nx ∧ nv = [some (.lv false [.lst (xs.map .int), .int p, .int (b / (if m < 2 then 2 else m)), .int s]), some (.val (.int m)), c.map .val, some (.val (.int b))]) := by
    simp [wp_ok, wp_stuck, wp_bind, wp_of, wp_nox, bind_ok, of_some, evS, evE, evOs, evCs, argStep, asgR, asgD, stSlot, rdVar, mvVar, R.slot, R.frz, opd, look, items, lstOf, inls, p1, p2, pAdd, pSub, pMul, pFdiv, pMod, pCmp, deq, pIx, pMax, pMin, pLen, pList, pTupl, pIsi, mthOn, mthD, stIx, L2.ixN, L2.atI, callOn, arrO, slotsOf, brws, putBack, wipeN, back, recv, pm, h2, h3]
  refine e2.imp ?_
  rintro f nv ⟨rfl, rfl⟩
  refine wp_cons (wp_ret (r := .val (.int (b % (if m < 1 then 1 else m)))) (nv1 := [some (.lv false [.lst (xs.map .int), .int p, .int (b / (if m < 2 then 2 else m)), .int s]), some (.val (.int m)), c.map .val, some (.val (.int b))]) ?_ ?_)
  · simp [wp_ok, wp_stuck, wp_bind, wp_of, wp_nox, bind_ok, of_some, evS, evE, evOs, evCs, argStep, asgR, asgD, stSlot, rdVar, mvVar, R.slot, R.frz, opd, look, items, lstOf, inls, p1, p2, pAdd, pSub, pMul, pFdiv, pMod, pCmp, deq, pIx, pMax, pMin, pLen, pList, pTupl, pIsi, mthOn, mthD, stIx, L2.ixN, L2.atI, callOn, arrO, slotsOf, brws, putBack, wipeN, back, recv, pm, h5]
  · exact ⟨_, _, _, _, rfl, rfl, ⟨xs, p, _, s, Int.ediv_nonneg hb (by omega), hs, rfl⟩, h4⟩
theorem A2 (n : Nat) (a b : Option Sl) (x p : Int) : Wp (evS (Φ n) (shsOf tt) (.asg (.nm 3) (.op2 .mod (.op1 .int (.op2 .add (.op2 .add (.op2 .mul (.var 3) (.int 48271)) (.op2 .mul (.var 2) (.int 69621))) (.int 5))) (.int 2147483647))) [a, b, some (.val (.int p)), some (.val (.int x))]) (fun f nv => f = .nx ∧ ∃ y : Int, nv = [a, b, some (.val (.int p)), some (.val (.int y))]) := by
  simp [wp_ok, wp_stuck, wp_bind, wp_of, wp_nox, bind_ok, of_some, evS, evE, evOs, evCs, argStep, asgR, asgD, stSlot, rdVar, mvVar, R.slot, R.frz, opd, look, items, lstOf, inls, p1, p2, pAdd, pSub, pMul, pFdiv, pMod, pCmp, deq, pIx, pMax, pMin, pLen, pList, pTupl, pIsi, mthOn, mthD, stIx, L2.ixN, L2.atI, callOn, arrO, slotsOf, brws, putBack, wipeN, back, recv, pm]
theorem A3 (n : Nat) (a b c : Option Sl) (x : Int) : Wp (evS (Φ n) (shsOf tt) (.asg (.nm 3) (.op2 .mod (.op1 .int (.op2 .mul (.var 3) (.int 69621))) (.int 2147483629))) [a, b, c, some (.val (.int x))]) (fun f nv => f = .nx ∧ ∃ y : Int, nv = [a, b, c, some (.val (.int y))]) := by
  simp [wp_ok, wp_stuck, wp_bind, wp_of, wp_nox, bind_ok, of_some, evS, evE, evOs, evCs, argStep, asgR, asgD, stSlot, rdVar, mvVar, R.slot, R.frz, opd, look, items, lstOf, inls, p1, p2, pAdd, pSub, pMul, pFdiv, pMod, pCmp, deq, pIx, pMax, pMin, pLen, pList, pTupl, pIsi, mthOn, mthD, stIx, L2.ixN, L2.atI, callOn, arrO, slotsOf, brws, putBack, wipeN, back, recv, pm]
abbrev body1 : List S := match d4.body with
  | .ife _ a _ :: _ => a
  | _ => []
/-- from the number on -/
theorem draw_mid (n : Nat) (xs : List Int) (p : Nat) (s m x : Int) (hs : 0 ≤ s) (hx : 0 ≤ x) (hm : m < 1000000) :
    Wp (evB (Φ n) (shsOf tt) (body1.drop 3) [some (.lv false [.lst (xs.map .int), .int p, .int 0, .int s]), some (.val (.int m)), some (.val (.int p)), some (.val (.int x))]) (fun f nv => DQ m f nv ∨ (f = .nx ∧ ∃ (p' : Nat) (b s' : Int) (c d : Option D), 0 ≤ b ∧ 0 ≤ s' ∧ nv = [some (.lv false [.lst (xs.map .int), .int p', .int b, .int s']), some (.val (.int m)), c.map .val, d.map .val])) := by
  refine wp_cons ?_
  have e1 : Wp (evS (Φ n) (shsOf tt) (.sti 0 (.int 1) (.op2 .add (.var 2) (.int 1))) [some (.lv false [.lst (xs.map .int), .int p, .int 0, .int s]), some (.val (.int m)), some (.val (.int p)), some (.val (.int x))]) (fun f nv => f = .nx ∧ nv = [some (.lv false [.lst (xs.map .int), .int ((p + 1 : Nat) : Int), .int 0, .int s]), some (.val (.int m)), some (.val (.int p)), some (.val (.int x))]) := by
    simp [wp_ok, wp_stuck, wp_bind, wp_of, wp_nox, bind_ok, of_some, evS, evE, evOs, evCs, argStep, asgR, asgD, stSlot, rdVar, mvVar, R.slot, R.frz, opd, look, items, lstOf, inls, p1, p2, pAdd, pSub, pMul, pFdiv, pMod, pCmp, deq, pIx, pMax, pMin, pLen, pList, pTupl, pIsi, mthOn, mthD, stIx, L2.ixN, L2.atI, callOn, arrO, slotsOf, brws, putBack, wipeN, back, recv, pm]
  refine e1.imp ?_
  rintro f nv ⟨rfl, rfl⟩
  refine wp_cons ?_
  refine wp_if (k := decide (x < 1000000000000000000)) (nv1 := [some (.lv false [.lst (xs.map .int), .int ((p + 1 : Nat) : Int), .int 0, .int s]), some (.val (.int m)), some (.val (.int p)), some (.val (.int x))]) (by simp [wp_ok, wp_stuck, wp_bind, wp_of, wp_nox, bind_ok, of_some, evS, evE, evOs, evCs, argStep, asgR, asgD, stSlot, rdVar, mvVar, R.slot, R.frz, opd, look, items, lstOf, inls, p1, p2, pAdd, pSub, pMul, pFdiv, pMod, pCmp, deq, pIx, pMax, pMin, pLen, pList, pTupl, pIsi, mthOn, mthD, stIx, L2.ixN, L2.atI, callOn, arrO, slotsOf, brws, putBack, wipeN, back, recv, pm, pow18]) (fun h => ?_) (fun h => ?_)
  · refine wp_cons ?_
    have e2 := A2 n (some (.lv false [.lst (xs.map .int), .int ((p + 1 : Nat) : Int), .int 0, .int s])) (some (.val (.int m))) x p
    refine e2.imp ?_
    rintro f nv ⟨rfl, y, rfl⟩
    refine wp_cons ?_
    have e3 := A3 n (some (.lv false [.lst (xs.map .int), .int ((p + 1 : Nat) : Int), .int 0, .int s])) (some (.val (.int m))) (some (.val (.int p))) y
    refine e3.imp ?_
    rintro f nv ⟨rfl, z, rfl⟩
    have h4 := mod_rng z m
    have h5 := pos_max m
    refine wp_cons (wp_ret (r := .val (.int (z % (if m < 1 then 1 else m)))) (nv1 := [some (.lv false [.lst (xs.map .int), .int ((p + 1 : Nat) : Int), .int 0, .int s]), some (.val (.int m)), some (.val (.int p)), some (.val (.int z))]) ?_ ?_)
    · simp [wp_ok, wp_stuck, wp_bind, wp_of, wp_nox, bind_ok, of_some, evS, evE, evOs, evCs, argStep, asgR, asgD, stSlot, rdVar, mvVar, R.slot, R.frz, opd, look, items, lstOf, inls, p1, p2, pAdd, pSub, pMul, pFdiv, pMod, pCmp, deq, pIx, pMax, pMin, pLen, pList, pTupl, pIsi, mthOn, mthD, stIx, L2.ixN, L2.atI, callOn, arrO, slotsOf, brws, putBack, wipeN, back, recv, pm, h5]
    · exact .inl ⟨_, _, _, _, rfl, rfl, ⟨xs, p + 1, 0, s, by decide, hs, rfl⟩, h4⟩
  · refine wp_nil ?_
    refine wp_cons ?_
    have e2 : Wp (evS (Φ n) (shsOf tt) (.sti 0 (.int 2) (.var 3)) [some (.lv false [.lst (xs.map .int), .int ((p + 1 : Nat) : Int), .int 0, .int s]), some (.val (.int m)), some (.val (.int p)), some (.val (.int x))]) (fun f nv => f = .nx ∧ nv = [some (.lv false [.lst (xs.map .int), .int ((p + 1 : Nat) : Int), .int x, .int s]), some (.val (.int m)), some (.val (.int p)), some (.val (.int x))]) := by
      simp [wp_ok, wp_stuck, wp_bind, wp_of, wp_nox, bind_ok, of_some, evS, evE, evOs, evCs, argStep, asgR, asgD, stSlot, rdVar, mvVar, R.slot, R.frz, opd, look, items, lstOf, inls, p1, p2, pAdd, pSub, pMul, pFdiv, pMod, pCmp, deq, pIx, pMax, pMin, pLen, pList, pTupl, pIsi, mthOn, mthD, stIx, L2.ixN, L2.atI, callOn, arrO, slotsOf, brws, putBack, wipeN, back, recv, pm]
    refine e2.imp ?_
    rintro f nv ⟨rfl, rfl⟩
    exact wp_nil (.inr ⟨rfl, p + 1, x, s, some (.int p), some (.int x), hx, hs, rfl⟩)
theorem draw_ok (n : Nat) (tape : List D) (h : Tp tape) (m : Int) (hm : m < 1000000) : WpC (Φ (n + 1) 4 [.lv false tape, .val (.int m)]) fun r outs => ∃ v tape', r = .val (.int v) ∧ outs = [.lv false tape', .val (.int m)] ∧ Tp tape' ∧ 0 ≤ v ∧ v < (if 1 > m then 1 else m) := by
  obtain ⟨xs, p, b, s, hb, hs, rfl⟩ := h
  refine wpC_df (d := d4) rfl rfl ?_
  suffices hh : Wp (evB (Φ n) (shsOf tt) d4.body [some (.lv false [.lst (xs.map .int), .int p, .int b, .int s]), some (.val (.int m)), (none : Option D).map .val, (none : Option D).map .val]) (DQ m) by
    refine Wp.imp hh ?_
    rintro f nv ⟨v, tape', c, d, rfl, rfl, h1, h2, h3⟩
    exact ⟨[.lv false tape', .val (.int m)], rfl, v, tape', rfl, rfl, h1, h2, h3⟩
  refine wp_cons ?_
  refine wp_if (k := decide (b = 0)) (nv1 := [some (.lv false [.lst (xs.map .int), .int p, .int b, .int s]), some (.val (.int m)), (none : Option D).map .val, (none : Option D).map .val]) (by simp [wp_ok, wp_stuck, wp_bind, wp_of, wp_nox, bind_ok, of_some, evS, evE, evOs, evCs, argStep, asgR, asgD, stSlot, rdVar, mvVar, R.slot, R.frz, opd, look, items, lstOf, inls, p1, p2, pAdd, pSub, pMul, pFdiv, pMod, pCmp, deq, pIx, pMax, pMin, pLen, pList, pTupl, pIsi, mthOn, mthD, stIx, L2.ixN, L2.atI, callOn, arrO, slotsOf, brws, putBack, wipeN, back, recv, pm]) (fun h => ?_) (fun h => ?_)
  · have h : b = 0 := of_decide_eq_true h
    subst h
    refine wp_cons ?_
    have e1 : Wp (evS (Φ n) (shsOf tt) (.asg (.nm 2) (.op2 .ix (.var 0) (.int 1))) [some (.lv false [.lst (xs.map .int), .int p, .int 0, .int s]), some (.val (.int m)), (none : Option D).map .val, (none : Option D).map .val]) (fun f nv => f = .nx ∧ nv = [some (.lv false [.lst (xs.map .int), .int p, .int 0, .int s]), some (.val (.int m)), some (.val (.int p)), none]) := by
      simp [wp_ok, wp_stuck, wp_bind, wp_of, wp_nox, bind_ok, of_some, evS, evE, evOs, evCs, argStep, asgR, asgD, stSlot, rdVar, mvVar, R.slot, R.frz, opd, look, items, lstOf, inls, p1, p2, pAdd, pSub, pMul, pFdiv, pMod, pCmp, deq, pIx, pMax, pMin, pLen, pList, pTupl, pIsi, mthOn, mthD, stIx, L2.ixN, L2.atI, callOn, arrO, slotsOf, brws, putBack, wipeN, back, recv, pm]
    refine e1.imp ?_
    rintro f nv ⟨rfl, rfl⟩
    refine wp_cons ?_
    have e2 : Wp (evS (Φ n) (shsOf tt) (.asg (.nm 3) (.int 0)) [some (.lv false [.lst (xs.map .int), .int p, .int 0, .int s]), some (.val (.int m)), some (.val (.int p)), none]) (fun f nv => f = .nx ∧ nv = [some (.lv false [.lst (xs.map .int), .int p, .int 0, .int s]), some (.val (.int m)), some (.val (.int p)), some (.val (.int 0))]) := by
      simp [wp_ok, wp_stuck, wp_bind, wp_of, wp_nox, bind_ok, of_some, evS, evE, evOs, evCs, argStep, asgR, asgD, stSlot, rdVar, mvVar, R.slot, R.frz, opd, look, items, lstOf, inls, p1, p2, pAdd, pSub, pMul, pFdiv, pMod, pCmp, deq, pIx, pMax, pMin, pLen, pList, pTupl, pIsi, mthOn, mthD, stIx, L2.ixN, L2.atI, callOn, arrO, slotsOf, brws, putBack, wipeN, back, recv, pm]
    refine e2.imp ?_
    rintro f nv ⟨rfl, rfl⟩
    refine wp_cons ?_
    have fin : ∀ (s x : Int), 0 ≤ s → 0 ≤ x → Wp (evB (Φ n) (shsOf tt) (body1.drop 3) [some (.lv false [.lst (xs.map .int), .int p, .int 0, .int s]), some (.val (.int m)), some (.val (.int p)), some (.val (.int x))]) (fun f nv => match f with | .nx => Wp (evB (Φ n) (shsOf tt) (d4.body.drop 1) nv) (DQ m) | f => DQ m f nv) := by
      intro s x hs hx
      refine (draw_mid n xs p s m x hs hx hm).imp ?_
      rintro f nv (h | ⟨rfl, p', b, s', c, d, h1, h2, rfl⟩)
      · obtain ⟨v, tape', c, d, rfl, h⟩ := h
        exact ⟨v, tape', c, d, rfl, h⟩
      · exact draw_end n xs p' b s' m c d h1 h2 hm
    refine wp_if (k := decide (p < xs.length)) (nv1 := [some (.lv false [.lst (xs.map .int), .int p, .int 0, .int s]), some (.val (.int m)), some (.val (.int p)), some (.val (.int 0))]) (by simp [wp_ok, wp_stuck, wp_bind, wp_of, wp_nox, bind_ok, of_some, evS, evE, evOs, evCs, argStep, asgR, asgD, stSlot, rdVar, mvVar, R.slot, R.frz, opd, look, items, lstOf, inls, p1, p2, pAdd, pSub, pMul, pFdiv, pMod, pCmp, deq, pIx, pMax, pMin, pLen, pList, pTupl, pIsi, mthOn, mthD, stIx, L2.ixN, L2.atI, callOn, arrO, slotsOf, brws, putBack, wipeN, back, recv, pm]) (fun h => ?_) (fun h => ?_)
    · have h2 : p < xs.length := of_decide_eq_true h
      have h3 : xs[p]? = some xs[p] := List.getElem?_eq_getElem h2
      refine wp_cons ?_
      have e3 : Wp (evS (Φ n) (shsOf tt) (.asg (.nm 3) (.op1 .abs (.op1 .int (.op2 .ix (.op2 .ix (.var 0) (.int 0)) (.var 2))))) [some (.lv false [.lst (xs.map .int), .int p, .int 0, .int s]), some (.val (.int m)), some (.val (.int p)), some (.val (.int 0))]) (fun f nv => f = .nx ∧ ∃ x : Int, 0 ≤ x ∧ nv = [some (.lv false [.lst (xs.map .int), .int p, .int 0, .int s]), some (.val (.int m)), some (.val (.int p)), some (.val (.int x))]) := by
        simp [wp_ok, wp_stuck, wp_bind, wp_of, wp_nox, bind_ok, of_some, evS, evE, evOs, evCs, argStep, asgR, asgD, stSlot, rdVar, mvVar, R.slot, R.frz, opd, look, items, lstOf, inls, p1, p2, pAdd, pSub, pMul, pFdiv, pMod, pCmp, deq, pIx, pMax, pMin, pLen, pList, pTupl, pIsi, mthOn, mthD, stIx, L2.ixN, L2.atI, callOn, arrO, slotsOf, brws, putBack, wipeN, back, recv, pm, h2, h3]
        split <;> omega
      refine e3.imp ?_
      rintro f nv ⟨rfl, x, hx, rfl⟩
      exact wp_nil (fin s x hs hx)
    · refine wp_cons ?_
      have e3 : Wp (evS (Φ n) (shsOf tt) (.sti 0 (.int 3) (.op2 .mod (.op1 .int (.op2 .add (.op2 .add (.op2 .mul (.op2 .ix (.var 0) (.int 3)) (.int 48271)) (.var 2)) (.int 1))) (.int 2147483647))) [some (.lv false [.lst (xs.map .int), .int p, .int 0, .int s]), some (.val (.int m)), some (.val (.int p)), some (.val (.int 0))]) (fun f nv => f = .nx ∧ ∃ x : Int, 0 ≤ x ∧ nv = [some (.lv false [.lst (xs.map .int), .int p, .int 0, .int x]), some (.val (.int m)), some (.val (.int p)), some (.val (.int 0))]) := by
        simp [wp_ok, wp_stuck, wp_bind, wp_of, wp_nox, bind_ok, of_some, evS, evE, evOs, evCs, argStep, asgR, asgD, stSlot, rdVar, mvVar, R.slot, R.frz, opd, look, items, lstOf, inls, p1, p2, pAdd, pSub, pMul, pFdiv, pMod, pCmp, deq, pIx, pMax, pMin, pLen, pList, pTupl, pIsi, mthOn, mthD, stIx, L2.ixN, L2.atI, callOn, arrO, slotsOf, brws, putBack, wipeN, back, recv, pm]
        exact Int.emod_nonneg _ (by decide)
      refine e3.imp ?_
      rintro f nv ⟨rfl, x, hx, rfl⟩
      refine wp_cons ?_
      have e4 : Wp (evS (Φ n) (shsOf tt) (.asg (.nm 3) (.op2 .ix (.var 0) (.int 3))) [some (.lv false [.lst (xs.map .int), .int p, .int 0, .int x]), some (.val (.int m)), some (.val (.int p)), some (.val (.int 0))]) (fun f nv => f = .nx ∧ nv = [some (.lv false [.lst (xs.map .int), .int p, .int 0, .int x]), some (.val (.int m)), some (.val (.int p)), some (.val (.int x))]) := by
        simp [wp_ok, wp_stuck, wp_bind, wp_of, wp_nox, bind_ok, of_some, evS, evE, evOs, evCs, argStep, asgR, asgD, stSlot, rdVar, mvVar, R.slot, R.frz, opd, look, items, lstOf, inls, p1, p2, pAdd, pSub, pMul, pFdiv, pMod, pCmp, deq, pIx, pMax, pMin, pLen, pList, pTupl, pIsi, mthOn, mthD, stIx, L2.ixN, L2.atI, callOn, arrO, slotsOf, brws, putBack, wipeN, back, recv, pm]
      refine e4.imp ?_
      rintro f nv ⟨rfl, rfl⟩
      exact wp_nil (fin x x hx hx)
  · refine wp_nil ?_
    exact draw_end n xs p b s m none none hb hs hm
theorem tape_ok (n : Nat) (ns : List Int) : WpC (Φ (n + 1) 3 [.val (.scr ns)]) fun r outs => outs = [.val (.scr ns)] ∧ ∃ t : Int, 0 ≤ t ∧ r = .own [.lst (ns.map .int), .int 0, .int 0, .int t] := by
  refine wpC_df (d := d3) rfl rfl ?_
  simp [wp_ok, wp_stuck, wp_bind, wp_of, wp_nox, bind_ok, of_some, evS, evE, evOs, evCs, argStep, asgR, asgD, stSlot, rdVar, mvVar, R.slot, R.frz, opd, look, items, lstOf, inls, p1, p2, pAdd, pSub, pMul, pFdiv, pMod, pCmp, deq, pIx, pMax, pMin, pLen, pList, pTupl, pIsi, mthOn, mthD, stIx, L2.ixN, L2.atI, callOn, arrO, slotsOf, brws, putBack, wipeN, back, recv, pm, evB, startNv, d3]
  refine wp_for (fun xs nv => ∃ (t : Int) (is : List Int) (c : Option D), 0 ≤ t ∧ xs = is.map .int ∧ nv = [some (.val (.scr ns)), some (.val (.int t)), c.map .val]) ⟨7, ns, none, by decide, rfl, rfl⟩ ?_ ?_
  · rintro d ds nv ⟨t, is, c, ht, hx, rfl⟩
    obtain ⟨i, is', rfl, rfl, rfl⟩ : ∃ i is', is = i :: is' ∧ d = .int i ∧ ds = is'.map .int := by
      cases is with
      | nil => cases hx
      | cons i is' => cases hx; exact ⟨i, is', rfl, rfl, rfl⟩
    cases c <;> simp [wp_ok, wp_stuck, wp_bind, wp_of, wp_nox, bind_ok, of_some, evS, evE, evOs, evCs, argStep, asgR, asgD, stSlot, rdVar, mvVar, R.slot, R.frz, opd, look, items, lstOf, inls, p1, p2, pAdd, pSub, pMul, pFdiv, pMod, pCmp, deq, pIx, pMax, pMin, pLen, pList, pTupl, pIsi, mthOn, mthD, stIx, L2.ixN, L2.atI, callOn, arrO, slotsOf, brws, putBack, wipeN, back, recv, pm, evB, startNv]
    all_goals exact ⟨_, Int.emod_nonneg _ (by decide), ⟨is', rfl⟩, rfl, some (.int i), rfl⟩
  · rintro nv ⟨t, is, c, ht, hx, rfl⟩
    cases c <;> simp [wp_ok, wp_stuck, wp_bind, wp_of, wp_nox, bind_ok, of_some, evS, evE, evOs, evCs, argStep, asgR, asgD, stSlot, rdVar, mvVar, R.slot, R.frz, opd, look, items, lstOf, inls, p1, p2, pAdd, pSub, pMul, pFdiv, pMod, pCmp, deq, pIx, pMax, pMin, pLen, pList, pTupl, pIsi, mthOn, mthD, stIx, L2.ixN, L2.atI, callOn, arrO, slotsOf, brws, putBack, wipeN, back, recv, pm, evB, startNv, SZ, outsOf, List.range, List.range.loop]
    all_goals exact ht
end K00
namespace K00
open PySem G
theorem wpC_eq {c : Cr} {Q : R → List Sl → Prop} (h : WpC c Q) : ∃ r outs, c = .ok r outs ∧ Q r outs := h
theorem wp_ifW {Φ : Fn} {shs : Nat → Nat → G.Shape} {Q : Fl → Nv → Prop} {nv : Nv} {c : E} {a b : List S} (h : Wp (evE Φ shs c nv) fun r nv1 => ∃ k, r = .val (.bl k) ∧ (k = true → Wp (evB Φ shs a nv1) Q) ∧ (k = false → Wp (evB Φ shs b nv1) Q)) : Wp (evS Φ shs (.ife c a b) nv) Q := by
  obtain ⟨r, nv1, e, k, rfl, h1, h2⟩ := h
  exact wp_if e h1 h2
def HsOk (hs : List D) : Prop := ∀ h ∈ hs, h = .non ∨ ∃ k : Nat, h = .int k
theorem HsOk.snoc {hs : List D} {d : D} (h : HsOk hs) (h2 : d = .non ∨ ∃ k : Nat, d = .int k) : HsOk (hs ++ [d]) := by
  intro x hx
  rcases List.mem_append.mp hx with hx | hx
  · exact h x hx
  · cases List.mem_singleton.mp hx; exact h2
theorem holders_ok (n : Nat) (tape : List D) (h : Tp tape) (m : Int) (hm : m < 1000000) : WpC (Φ (n + 2) 6 [.lv false tape, .val (.int m)]) fun r outs => ∃ hs tape', r = .val (.tup hs) ∧ outs = [.lv false tape', .val (.int m)] ∧ Tp tape' ∧ HsOk hs ∧ hs.length ≤ 12 := by
  refine wpC_df (d := d6) rfl rfl ?_
  refine wp_cons ?_
  refine Wp.imp (Q := fun f nv => f = .nx ∧ nv = [some (.lv false tape), some (.val (.int m)), some (.lv true []), none]) (by simp [wp_ok, wp_stuck, wp_bind, wp_of, wp_nox, bind_ok, of_some, evS, evE, evOs, evCs, argStep, asgR, asgD, stSlot, rdVar, mvVar, R.slot, R.frz, opd, look, items, lstOf, inls, p1, p2, pAdd, pSub, pMul, pFdiv, pMod, pCmp, deq, pIx, pMax, pMin, pLen, pList, pTupl, pIsi, mthOn, mthD, stIx, L2.ixN, L2.atI, callOn, arrO, slotsOf, brws, putBack, wipeN, back, recv, pm, startNv, d6, SZ]) ?_
  rintro f nv ⟨rfl, rfl⟩
  refine wp_cons ?_
  obtain ⟨_, _, e, v, tape1, rfl, rfl, h1, h2, h3⟩ := draw_ok n tape h 12 (by decide)
  have h3 : v < 12 := h3
  have e1 : items .rng [.inl (.int (1 + v))] = some ((List.range (1 + v).toNat).map fun k => D.int (k : Nat)) := by
    have : b62 (1 + v) = true := by simp [b62]; omega
    simp [items, this]
  refine Wp.imp (Q := fun f nv => f = .nx ∧ ∃ tape' hs c, Tp tape' ∧ HsOk hs ∧ hs.length ≤ 12 ∧ nv = [some (.lv false tape'), some (.val (.int m)), some (.lv true hs), c]) ?_ ?_
  · rw [evS, wp_bind]
    refine Wp.imp (Q := fun os nv => os = [.inl (.int (1 + v))] ∧ nv = [some (.lv false tape1), some (.val (.int m)), some (.lv true []), none]) ?_ ?_
    · simp [wp_ok, wp_stuck, wp_bind, wp_of, wp_nox, bind_ok, of_some, evS, evE, evOs, evCs, argStep, asgR, asgD, stSlot, rdVar, mvVar, R.slot, R.frz, opd, look, items, lstOf, inls, p1, p2, pAdd, pSub, pMul, pFdiv, pMod, pCmp, deq, pIx, pMax, pMin, pLen, pList, pTupl, pIsi, mthOn, mthD, stIx, L2.ixN, L2.atI, callOn, arrO, slotsOf, brws, putBack, wipeN, back, recv, pm, shsOf, tt, tab, e]
    rintro os nv ⟨rfl, rfl⟩
    rw [e1]
    refine wp_for (fun xs nv => ∃ tape' hs c, Tp tape' ∧ HsOk hs ∧ hs.length + xs.length ≤ 12 ∧ nv = [some (.lv false tape'), some (.val (.int m)), some (.lv true hs), Option.map Sl.val c]) ⟨tape1, [], none, h1, (fun _ h => by cases h), (by simp; omega), rfl⟩ ?_ ?_
    · rintro d ds nv ⟨tp, hs, c, i1, i2, i3, rfl⟩
      rw [wp_bind]
      refine Wp.imp (Q := fun _ nv => nv = [some (.lv false tp), some (.val (.int m)), some (.lv true hs), some (.val d)]) (by cases c <;> simp [wp_ok, wp_stuck, wp_bind, wp_of, wp_nox, bind_ok, of_some, evS, evE, evOs, evCs, argStep, asgR, asgD, stSlot, rdVar, mvVar, R.slot, R.frz, opd, look, items, lstOf, inls, p1, p2, pAdd, pSub, pMul, pFdiv, pMod, pCmp, deq, pIx, pMax, pMin, pLen, pList, pTupl, pIsi, mthOn, mthD, stIx, L2.ixN, L2.atI, callOn, arrO, slotsOf, brws, putBack, wipeN, back, recv, pm]) ?_
      rintro _ nv rfl
      refine wp_cons ?_
      have i3 : hs.length < 12 := by simp at i3; omega
      have iz : hs.length < SZ := by unfold SZ; omega
      obtain ⟨_, _, e2, v2, tp2, rfl, rfl, j1, j2, j3⟩ := draw_ok n tp i1 4 (by decide)
      refine wp_ifW ⟨.val (.bl (decide (v2 = 0))), [some (.lv false tp2), some (.val (.int m)), some (.lv true hs), some (.val d)], by simp [wp_ok, wp_stuck, wp_bind, wp_of, wp_nox, bind_ok, of_some, evS, evE, evOs, evCs, argStep, asgR, asgD, stSlot, rdVar, mvVar, R.slot, R.frz, opd, look, items, lstOf, inls, p1, p2, pAdd, pSub, pMul, pFdiv, pMod, pCmp, deq, pIx, pMax, pMin, pLen, pList, pTupl, pIsi, mthOn, mthD, stIx, L2.ixN, L2.atI, callOn, arrO, slotsOf, brws, putBack, wipeN, back, recv, pm, shsOf, tt, tab, e2], _, rfl, fun _ => ?_, fun _ => ?_⟩
      · refine wp_cons ?_
        refine Wp.imp (Q := fun f nv => f = .nx ∧ nv = [some (.lv false tp2), some (.val (.int m)), some (.lv true (hs ++ [.non])), some (.val d)]) (by simp [wp_ok, wp_stuck, wp_bind, wp_of, wp_nox, bind_ok, of_some, evS, evE, evOs, evCs, argStep, asgR, asgD, stSlot, rdVar, mvVar, R.slot, R.frz, opd, look, items, lstOf, inls, p1, p2, pAdd, pSub, pMul, pFdiv, pMod, pCmp, deq, pIx, pMax, pMin, pLen, pList, pTupl, pIsi, mthOn, mthD, stIx, L2.ixN, L2.atI, callOn, arrO, slotsOf, brws, putBack, wipeN, back, recv, pm, iz]) ?_
        rintro f nv ⟨rfl, rfl⟩
        refine wp_nil (wp_nil ⟨rfl, tp2, _, some d, j1, i2.snoc (.inl rfl), by simp at *; omega, rfl⟩)
      · refine wp_cons ?_
        obtain ⟨_, _, e3, v3, tp3, rfl, rfl, k1, k2, k3⟩ := draw_ok n tp2 j1 m hm
        refine Wp.imp (Q := fun f nv => f = .nx ∧ nv = [some (.lv false tp3), some (.val (.int m)), some (.lv true (hs ++ [.int v3])), some (.val d)]) (by simp [wp_ok, wp_stuck, wp_bind, wp_of, wp_nox, bind_ok, of_some, evS, evE, evOs, evCs, argStep, asgR, asgD, stSlot, rdVar, mvVar, R.slot, R.frz, opd, look, items, lstOf, inls, p1, p2, pAdd, pSub, pMul, pFdiv, pMod, pCmp, deq, pIx, pMax, pMin, pLen, pList, pTupl, pIsi, mthOn, mthD, stIx, L2.ixN, L2.atI, callOn, arrO, slotsOf, brws, putBack, wipeN, back, recv, pm, shsOf, tt, tab, e3, iz]) ?_
        rintro f nv ⟨rfl, rfl⟩
        refine wp_nil (wp_nil ⟨rfl, tp3, _, some d, k1, i2.snoc (.inr ⟨v3.toNat, by rw [Int.toNat_of_nonneg k2]⟩), by simp at *; omega, rfl⟩)
    · rintro nv ⟨tp, hs, c, i1, i2, i3, rfl⟩
      exact ⟨rfl, tp, hs, _, i1, i2, by simpa using i3, rfl⟩
  · rintro f nv ⟨rfl, tp, hs, c, i1, i2, i3, rfl⟩
    refine wp_cons (wp_ret (r := .val (.tup hs)) (nv1 := [some (.lv false tp), some (.val (.int m)), some (.lv true hs), c]) (by simp [wp_ok, wp_stuck, wp_bind, wp_of, wp_nox, bind_ok, of_some, evS, evE, evOs, evCs, argStep, asgR, asgD, stSlot, rdVar, mvVar, R.slot, R.frz, opd, look, items, lstOf, inls, p1, p2, pAdd, pSub, pMul, pFdiv, pMod, pCmp, deq, pIx, pMax, pMin, pLen, pList, pTupl, pIsi, mthOn, mthD, stIx, L2.ixN, L2.atI, callOn, arrO, slotsOf, brws, putBack, wipeN, back, recv, pm]) ?_)
    exact ⟨[.lv false tp, .val (.int m)], rfl, hs, tp, rfl, rfl, i1, i2, i3⟩
end K00
namespace K00
open PySem G
theorem y1 : Txt.index0 "YNP" ⟨#[89]⟩ = some 0 := by decide +kernel
theorem y2 : Txt.index0 "YNP" ⟨#[78]⟩ = some 1 := by decide +kernel
theorem y3 : Txt.index0 "YNP" ⟨#[80]⟩ = some 2 := by decide +kernel
theorem z1 : ("-" : Str) = ⟨#[45]⟩ := by decide +kernel
theorem z2 : ("Y" : Str) = ⟨#[89]⟩ := by decide +kernel
theorem z3 : ("N" : Str) = ⟨#[78]⟩ := by decide +kernel
theorem z4 : ("P" : Str) = ⟨#[80]⟩ := by decide +kernel
theorem z5 : ("YYNNP-" : Str) = ⟨#[89, 89, 78, 78, 80, 45]⟩ := by decide +kernel
theorem z6 : ("" : Str) = ⟨#[]⟩ := by decide +kernel
def chr (c : Nat) : D := .str ⟨#[c]⟩
theorem opd_of {b : E} {nv : Nv} {ra : Rs R} (h : isVar b = false) : opd b nv ra = ra.bind fun r nv1 => .ok (.inl r.frz) nv1 := by
  cases b <;> first | rfl | (cases h)
theorem strs_chr : ∀ cs : List Nat, strsD (cs.map chr) = some (cs.map fun c => (⟨#[c]⟩ : Str))
  | [] => rfl
  | c :: cs => by
    have h := strs_chr cs
    simp only [List.map_cons, chr, strsD] at h ⊢
    rw [h]; rfl
theorem fold_chr : ∀ (cs : List Nat) (acc : Array Nat), (cs.map fun c => (⟨#[c]⟩ : Str)).foldl (fun acc p => acc ++ (⟨#[]⟩ : Str).cps ++ p.cps) acc = acc ++ cs.toArray
  | [], acc => by simp
  | c :: cs, acc => by
    rw [List.map_cons, List.foldl_cons, fold_chr cs]
    simp
theorem join_chr (cs : List Nat) : Txt.join ⟨#[]⟩ (cs.map fun c => (⟨#[c]⟩ : Str)) = ⟨cs.toArray⟩ := by
  unfold Txt.join Builtin.Str.glued
  congr 1
  cases cs with
  | nil => rfl
  | cons c cs =>
    simp only [List.map_cons, List.drop_succ_cons, List.drop_zero, List.headD_cons]
    rw [fold_chr]
    simp
theorem sum_chr (cs : List Nat) : ((cs.map fun c => (⟨#[c]⟩ : Str)).map (·.length)).sum = cs.length := by
  induction cs with
  | nil => rfl
  | cons c cs ih =>
    simp only [List.map_cons, List.sum_cons, List.length_cons]
    rw [ih]
    show 1 + cs.length = _
    omega
theorem join_call {Φ : Fn} {shs : Nat → Nat → G.Shape} {b : E} {nv nv' : Nv} {cs : List Nat} (hb : isVar b = false) (h : evE Φ shs b nv = .ok (.own (cs.map chr)) nv') (hl : cs.length ≤ 12) : evE Φ shs (.mop .join (.str "") b) nv = .ok (.val (.str ⟨cs.toArray⟩)) nv' := by
  have l : pJoin (.str "") (.lst (cs.map chr)) = some (.val (.str ⟨cs.toArray⟩)) := by
    simp only [pJoin, strs_chr]
    show (if (((cs.map fun c => (⟨#[c]⟩ : Str)).map (·.length)).sum + (cs.map fun c => (⟨#[c]⟩ : Str)).length * ("" : Str).length ≤ SZ) then some (R.val (.str (Txt.join "" (cs.map fun c => (⟨#[c]⟩ : Str))))) else none) = _
    rw [sum_chr, z6, join_chr, if_pos (by simp [Str.length, SZ]; omega)]
  have e1 : ∀ ra, opd (.str "") nv ra = ra.bind fun r nv1 => .ok (.inl r.frz) nv1 := fun ra => opd_of rfl
  simp only [evE, e1, bind_ok, look, recv, if_true, opd_of hb, h, R.frz, Option.bind_some, pm, l, of_some]
def RollOk (d : D) : Prop := ∃ cs : List Nat, d = .str ⟨cs.toArray⟩ ∧ (∀ c ∈ cs, c = 89 ∨ c = 78 ∨ c = 80 ∨ c = 45) ∧ cs.length ≤ 12
def SeOk (d : D) : Prop := ∃ chs, d = .tup chs ∧ (∀ c ∈ chs, ∃ hs, c = .tup hs ∧ HsOk hs ∧ hs.length ≤ 12) ∧ chs.length ≤ 4
theorem seats_ok (n : Nat) (tape : List D) (h : Tp tape) : WpC (Φ (n + 3) 7 [.lv false tape, .val (.int 4)]) fun r outs => ∃ d tape', r = .val d ∧ outs = [.lv false tape', .val (.int 4)] ∧ Tp tape' ∧ SeOk d := by
  refine wpC_df (d := d7) rfl rfl ?_
  refine wp_cons ?_
  obtain ⟨_, _, e, v, tape1, rfl, rfl, h1, h2, h3⟩ := draw_ok (n + 1) tape h 4 (by decide)
  have h3 : v < 4 := h3
  refine Wp.imp (Q := fun f nv => f = .nx ∧ ∃ top : Int, top < 1000000 ∧ nv = [some (.lv false tape1), some (.val (.int 4)), some (.val (.int top)), none, none]) ?_ ?_
  · obtain rfl | rfl | rfl | rfl : v = 0 ∨ v = 1 ∨ v = 2 ∨ v = 3 := by omega
    · simp [wp_ok, wp_stuck, wp_bind, wp_of, wp_nox, bind_ok, of_some, evS, evE, evOs, evCs, argStep, asgR, asgD, stSlot, rdVar, mvVar, R.slot, R.frz, opd, look, items, lstOf, inls, p1, p2, pAdd, pSub, pMul, pFdiv, pMod, pCmp, deq, pIx, pMax, pMin, pLen, pList, pTupl, pIsi, mthOn, mthD, stIx, L2.ixN, L2.atI, callOn, arrO, slotsOf, brws, putBack, wipeN, back, recv, pm, shsOf, tt, tab, e, startNv, d7, SZ]
    · simp [wp_ok, wp_stuck, wp_bind, wp_of, wp_nox, bind_ok, of_some, evS, evE, evOs, evCs, argStep, asgR, asgD, stSlot, rdVar, mvVar, R.slot, R.frz, opd, look, items, lstOf, inls, p1, p2, pAdd, pSub, pMul, pFdiv, pMod, pCmp, deq, pIx, pMax, pMin, pLen, pList, pTupl, pIsi, mthOn, mthD, stIx, L2.ixN, L2.atI, callOn, arrO, slotsOf, brws, putBack, wipeN, back, recv, pm, shsOf, tt, tab, e, startNv, d7, SZ]
    · simp [wp_ok, wp_stuck, wp_bind, wp_of, wp_nox, bind_ok, of_some, evS, evE, evOs, evCs, argStep, asgR, asgD, stSlot, rdVar, mvVar, R.slot, R.frz, opd, look, items, lstOf, inls, p1, p2, pAdd, pSub, pMul, pFdiv, pMod, pCmp, deq, pIx, pMax, pMin, pLen, pList, pTupl, pIsi, mthOn, mthD, stIx, L2.ixN, L2.atI, callOn, arrO, slotsOf, brws, putBack, wipeN, back, recv, pm, shsOf, tt, tab, e, startNv, d7, SZ]
    · simp [wp_ok, wp_stuck, wp_bind, wp_of, wp_nox, bind_ok, of_some, evS, evE, evOs, evCs, argStep, asgR, asgD, stSlot, rdVar, mvVar, R.slot, R.frz, opd, look, items, lstOf, inls, p1, p2, pAdd, pSub, pMul, pFdiv, pMod, pCmp, deq, pIx, pMax, pMin, pLen, pList, pTupl, pIsi, mthOn, mthD, stIx, L2.ixN, L2.atI, callOn, arrO, slotsOf, brws, putBack, wipeN, back, recv, pm, shsOf, tt, tab, e, startNv, d7, SZ]
  rintro f nv ⟨rfl, top, ht, rfl⟩
  refine wp_cons ?_
  refine Wp.imp (Q := fun f nv => f = .nx ∧ nv = [some (.lv false tape1), some (.val (.int 4)), some (.val (.int top)), some (.lv true []), none]) (by simp [wp_ok, wp_stuck, wp_bind, wp_of, wp_nox, bind_ok, of_some, evS, evE, evOs, evCs, argStep, asgR, asgD, stSlot, rdVar, mvVar, R.slot, R.frz, opd, look, items, lstOf, inls, p1, p2, pAdd, pSub, pMul, pFdiv, pMod, pCmp, deq, pIx, pMax, pMin, pLen, pList, pTupl, pIsi, mthOn, mthD, stIx, L2.ixN, L2.atI, callOn, arrO, slotsOf, brws, putBack, wipeN, back, recv, pm, SZ]) ?_
  rintro f nv ⟨rfl, rfl⟩
  refine wp_cons ?_
  obtain ⟨_, _, e1, w, tape2, rfl, rfl, i1, i2, i3⟩ := draw_ok (n + 1) tape1 h1 4 (by decide)
  have i3 : w < 4 := i3
  have e2 : items .rng [.inl (.int (1 + w))] = some ((List.range (1 + w).toNat).map fun k => D.int (k : Nat)) := by
    have : b62 (1 + w) = true := by simp [b62]; omega
    simp [items, this]
  refine Wp.imp (Q := fun f nv => f = .nx ∧ ∃ tape' chs c, Tp tape' ∧ (∀ c ∈ chs, ∃ hs, c = .tup hs ∧ HsOk hs ∧ hs.length ≤ 12) ∧ chs.length ≤ 4 ∧ nv = [some (.lv false tape'), some (.val (.int 4)), some (.val (.int top)), some (.lv true chs), c]) ?_ ?_
  · rw [evS, wp_bind]
    refine Wp.imp (Q := fun os nv => os = [.inl (.int (1 + w))] ∧ nv = [some (.lv false tape2), some (.val (.int 4)), some (.val (.int top)), some (.lv true []), none]) (by simp [wp_ok, wp_stuck, wp_bind, wp_of, wp_nox, bind_ok, of_some, evS, evE, evOs, evCs, argStep, asgR, asgD, stSlot, rdVar, mvVar, R.slot, R.frz, opd, look, items, lstOf, inls, p1, p2, pAdd, pSub, pMul, pFdiv, pMod, pCmp, deq, pIx, pMax, pMin, pLen, pList, pTupl, pIsi, mthOn, mthD, stIx, L2.ixN, L2.atI, callOn, arrO, slotsOf, brws, putBack, wipeN, back, recv, pm, shsOf, tt, tab, e1]) ?_
    rintro os nv ⟨rfl, rfl⟩
    rw [e2]
    refine wp_for (fun xs nv => ∃ tape' chs c, Tp tape' ∧ (∀ c ∈ chs, ∃ hs, c = .tup hs ∧ HsOk hs ∧ hs.length ≤ 12) ∧ chs.length + xs.length ≤ 4 ∧ nv = [some (.lv false tape'), some (.val (.int 4)), some (.val (.int top)), some (.lv true chs), Option.map Sl.val c]) ⟨tape2, [], none, i1, (fun _ h => by cases h), (by simp; omega), rfl⟩ ?_ ?_
    · rintro d ds nv ⟨tp, chs, c, j1, j2, j3, rfl⟩
      rw [wp_bind]
      refine Wp.imp (Q := fun _ nv => nv = [some (.lv false tp), some (.val (.int 4)), some (.val (.int top)), some (.lv true chs), some (.val d)]) (by cases c <;> simp [wp_ok, wp_stuck, wp_bind, wp_of, wp_nox, bind_ok, of_some, evS, evE, evOs, evCs, argStep, asgR, asgD, stSlot, rdVar, mvVar, R.slot, R.frz, opd, look, items, lstOf, inls, p1, p2, pAdd, pSub, pMul, pFdiv, pMod, pCmp, deq, pIx, pMax, pMin, pLen, pList, pTupl, pIsi, mthOn, mthD, stIx, L2.ixN, L2.atI, callOn, arrO, slotsOf, brws, putBack, wipeN, back, recv, pm]) ?_
      rintro _ nv rfl
      refine wp_cons ?_
      have j3' : chs.length < 4 := by simp at j3; omega
      have jz : chs.length < SZ := by unfold SZ; omega
      obtain ⟨_, _, e3, hs, tp2, rfl, rfl, k1, k2, k3⟩ := holders_ok n tp j1 top ht
      refine Wp.imp (Q := fun f nv => f = .nx ∧ nv = [some (.lv false tp2), some (.val (.int 4)), some (.val (.int top)), some (.lv true (chs ++ [.tup hs])), some (.val d)]) (by simp [wp_ok, wp_stuck, wp_bind, wp_of, wp_nox, bind_ok, of_some, evS, evE, evOs, evCs, argStep, asgR, asgD, stSlot, rdVar, mvVar, R.slot, R.frz, opd, look, items, lstOf, inls, p1, p2, pAdd, pSub, pMul, pFdiv, pMod, pCmp, deq, pIx, pMax, pMin, pLen, pList, pTupl, pIsi, mthOn, mthD, stIx, L2.ixN, L2.atI, callOn, arrO, slotsOf, brws, putBack, wipeN, back, recv, pm, shsOf, tt, tab, e3, jz]) ?_
      rintro f nv ⟨rfl, rfl⟩
      refine wp_nil ⟨rfl, tp2, _, some d, k1, ?_, by simp at *; omega, rfl⟩
      intro c hc
      rcases List.mem_append.mp hc with hc | hc
      · exact j2 c hc
      · cases List.mem_singleton.mp hc; exact ⟨hs, rfl, k2, k3⟩
    · rintro nv ⟨tp, chs, c, j1, j2, j3, rfl⟩
      exact ⟨rfl, tp, chs, _, j1, j2, by simpa using j3, rfl⟩
  · rintro f nv ⟨rfl, tp, chs, c, j1, j2, j3, rfl⟩
    refine wp_cons (wp_ret (r := .val (.tup chs)) (nv1 := [some (.lv false tp), some (.val (.int 4)), some (.val (.int top)), some (.lv true chs), c]) (by simp [wp_ok, wp_stuck, wp_bind, wp_of, wp_nox, bind_ok, of_some, evS, evE, evOs, evCs, argStep, asgR, asgD, stSlot, rdVar, mvVar, R.slot, R.frz, opd, look, items, lstOf, inls, p1, p2, pAdd, pSub, pMul, pFdiv, pMod, pCmp, deq, pIx, pMax, pMin, pLen, pList, pTupl, pIsi, mthOn, mthD, stIx, L2.ixN, L2.atI, callOn, arrO, slotsOf, brws, putBack, wipeN, back, recv, pm]) ?_)
    exact ⟨[.lv false tp, .val (.int 4)], rfl, _, tp, rfl, rfl, j1, chs, rfl, j2, j3⟩
theorem roll_ok (n : Nat) (tape : List D) (h : Tp tape) (m : Int) (hm0 : 0 ≤ m) (hm : m ≤ 12) : WpC (Φ (n + 2) 8 [.lv false tape, .val (.int m)]) fun r outs => ∃ d tape', r = .val d ∧ outs = [.lv false tape', .val (.int m)] ∧ Tp tape' ∧ RollOk d := by
  refine wpC_df (d := d8) rfl rfl ?_
  suffices hh : Wp (evE (Φ (n + 1)) (shsOf tt) (.comp (.nm 2) .rng [.var 1] [] (.op2 .ix (.str "YYNNP-") (.call 4 0 [.brw 0, .int 6])) [2]) [some (.lv false tape), some (.val (.int m)), none]) (fun r nv => ∃ (cs : List Nat) (tape' : List D), r = .own (cs.map chr) ∧ nv = [some (.lv false tape'), some (.val (.int m)), none] ∧ Tp tape' ∧ (∀ c ∈ cs, c = 89 ∨ c = 78 ∨ c = 80 ∨ c = 45) ∧ cs.length ≤ 12) by
    obtain ⟨r, nv, e, cs, tape', rfl, rfl, h1, h2, h3⟩ := hh
    refine wp_cons (wp_ret (join_call rfl e h3) ?_)
    exact ⟨_, rfl, _, tape', rfl, rfl, h1, cs, rfl, h2, h3⟩
  have e2 : items .rng [.inl (.int m)] = some ((List.range m.toNat).map fun k => D.int (k : Nat)) := by
    have : b62 m = true := by simp [b62]; omega
    simp [items, this]
  rw [evE, wp_bind]
  refine Wp.imp (Q := fun os nv => os = [.inl (.int m)] ∧ nv = [some (.lv false tape), some (.val (.int m)), none]) (by simp [wp_ok, wp_stuck, wp_bind, wp_of, wp_nox, bind_ok, of_some, evS, evE, evOs, evCs, argStep, asgR, asgD, stSlot, rdVar, mvVar, R.slot, R.frz, opd, look, items, lstOf, inls, p1, p2, pAdd, pSub, pMul, pFdiv, pMod, pCmp, deq, pIx, pMax, pMin, pLen, pList, pTupl, pIsi, mthOn, mthD, stIx, L2.ixN, L2.atI, callOn, arrO, slotsOf, brws, putBack, wipeN, back, recv, pm, shsOf, tt, tab]) ?_
  rintro os nv ⟨rfl, rfl⟩
  rw [e2]
  simp only [wp_bind, wp_nox, wp_ok]
  refine wp_comp (fun xs acc nv => ∃ (cs : List Nat) (tape' : List D), acc = cs.map chr ∧ nv = [some (.lv false tape'), some (.val (.int m)), none] ∧ Tp tape' ∧ (∀ c ∈ cs, c = 89 ∨ c = 78 ∨ c = 80 ∨ c = 45) ∧ cs.length + xs.length ≤ 12) ⟨[], tape, rfl, rfl, h, (fun _ h => by cases h), (by simp; omega)⟩ ?_ ?_
  · rintro d ds acc nv ⟨cs, tp, rfl, rfl, h1, h2, h3⟩
    have h3' : cs.length < 12 := by simp at h3; omega
    have hz : cs.length < SZ := by unfold SZ; omega
    obtain ⟨_, _, e3, v, tp2, rfl, rfl, k1, k2, k3⟩ := draw_ok n tp h1 6 (by decide)
    have k3 : v < 6 := k3
    have key : ∃ c : Nat, pIx (.str "YYNNP-") (.int v) = some (.val (chr c)) ∧ (c = 89 ∨ c = 78 ∨ c = 80 ∨ c = 45) := by
      rw [z5]
      obtain rfl | rfl | rfl | rfl | rfl | rfl : v = 0 ∨ v = 1 ∨ v = 2 ∨ v = 3 ∨ v = 4 ∨ v = 5 := by omega
      · exact ⟨89, rfl, by decide⟩
      · exact ⟨89, rfl, by decide⟩
      · exact ⟨78, rfl, by decide⟩
      · exact ⟨78, rfl, by decide⟩
      · exact ⟨80, rfl, by decide⟩
      · exact ⟨45, rfl, by decide⟩
    obtain ⟨c, e4, hc⟩ := key
    refine Wp.imp (Q := fun o nv => o = some (chr c) ∧ nv = [some (.lv false tp2), some (.val (.int m)), none]) ?_ ?_
    · simp [wp_ok, wp_bind, wp_of, asgD, stSlot, evCs, evE, evOs, argStep, opd, look, bind_ok, R.frz, callOn, shsOf, tt, tab, arrO, slotsOf, brws, putBack, e3, p2, e4, of_some, wipeN]
    rintro o nv ⟨rfl, rfl⟩
    refine ⟨by simpa using hz, cs ++ [c], tp2, by simp, rfl, k1, ?_, by simp at *; omega⟩
    intro x hx
    rcases List.mem_append.mp hx with hx | hx
    · exact h2 x hx
    · cases List.mem_singleton.mp hx; exact hc
  · rintro acc nv ⟨cs, tp, rfl, rfl, h1, h2, h3⟩
    exact ⟨cs, tp, rfl, rfl, h1, h2, by simpa using h3⟩
end K00
namespace K00
open PySem G
def hOf (chs : List D) (c : Nat) : List D := match chs[c]? with
  | some (.tup hs) => hs
  | _ => []
theorem hOf_ok {chs : List D} (h : ∀ c ∈ chs, ∃ hs, c = .tup hs ∧ HsOk hs ∧ hs.length ≤ 12) (c : Nat) : HsOk (hOf chs c) ∧ (hOf chs c).length ≤ 12 ∧ (c < chs.length → chs[c]? = some (.tup (hOf chs c))) ∧ (¬ c < chs.length → hOf chs c = []) := by
  unfold hOf
  by_cases hc : c < chs.length
  · have e := List.getElem?_eq_getElem hc
    obtain ⟨hs, e2, h1, h2⟩ := h _ (List.getElem_mem hc)
    rw [e, e2]
    exact ⟨h1, h2, fun _ => rfl, fun z => absurd hc z⟩
  · rw [List.getElem?_eq_none (by omega)]
    exact ⟨(fun _ h => by cases h), by simp, fun z => absurd z hc, fun _ => rfl⟩
theorem hof_call (n : Nat) {chs : List D} (h : ∀ c ∈ chs, ∃ hs, c = .tup hs ∧ HsOk hs ∧ hs.length ≤ 12) (c : Nat) : Φ (n + 1) 0 [.val (.tup chs), .val (.int c)] = .ok (.val (.tup (hOf chs c))) [.val (.tup chs), .val (.int c)] := by
  obtain ⟨h1, h2, h3, h4⟩ := hOf_ok h c
  suffices hh : WpC (Φ (n + 1) 0 [.val (.tup chs), .val (.int c)]) fun r outs => r = .val (.tup (hOf chs c)) ∧ outs = [.val (.tup chs), .val (.int c)] by
    obtain ⟨r, outs, e, rfl, rfl⟩ := hh
    exact e
  refine wpC_df (d := d0) rfl rfl ?_
  by_cases hc : c < chs.length
  · simp [wp_ok, wp_stuck, wp_bind, wp_of, wp_nox, bind_ok, of_some, evS, evE, evOs, evCs, argStep, asgR, asgD, stSlot, rdVar, mvVar, R.slot, R.frz, opd, look, items, lstOf, inls, p1, p2, pAdd, pSub, pMul, pFdiv, pMod, pCmp, deq, pIx, pMax, pMin, pLen, pList, pTupl, pIsi, mthOn, mthD, stIx, L2.ixN, L2.atI, callOn, arrO, slotsOf, brws, putBack, wipeN, back, recv, pm, shsOf, tt, tab, evB, startNv, d0, hc]
    exact ⟨rfl, Option.some.inj ((List.getElem?_eq_getElem hc).symm.trans (h3 hc))⟩
  · simp [wp_ok, wp_stuck, wp_bind, wp_of, wp_nox, bind_ok, of_some, evS, evE, evOs, evCs, argStep, asgR, asgD, stSlot, rdVar, mvVar, R.slot, R.frz, opd, look, items, lstOf, inls, p1, p2, pAdd, pSub, pMul, pFdiv, pMod, pCmp, deq, pIx, pMax, pMin, pLen, pList, pTupl, pIsi, mthOn, mthD, stIx, L2.ixN, L2.atI, callOn, arrO, slotsOf, brws, putBack, wipeN, back, recv, pm, shsOf, tt, tab, evB, startNv, d0, hc, h4 hc]
    rfl
theorem vote_call (n : Nat) (cs : List Nat) (hl : cs.length ≤ 12) (k : Nat) : Φ (n + 1) 1 [.val (.str ⟨cs.toArray⟩), .val (.int k)] = .ok (.val (chr (cs.getD k 45))) [.val (.str ⟨cs.toArray⟩), .val (.int k)] := by
  suffices hh : WpC (Φ (n + 1) 1 [.val (.str ⟨cs.toArray⟩), .val (.int k)]) fun r outs => r = .val (chr (cs.getD k 45)) ∧ outs = [.val (.str ⟨cs.toArray⟩), .val (.int k)] by
    obtain ⟨r, outs, e, rfl, rfl⟩ := hh
    exact e
  have hz : Str.length ⟨cs.toArray⟩ ≤ SZ := by simp [Str.length, SZ]; omega
  have hz2 : Str.length ⟨cs.toArray⟩ = cs.length := by simp [Str.length]
  rw [hz2] at hz
  refine wpC_df (d := d1) rfl rfl ?_
  by_cases hc : k < cs.length
  · have e := List.getElem?_eq_getElem hc
    simp [wp_ok, wp_stuck, wp_bind, wp_of, wp_nox, bind_ok, of_some, evS, evE, evOs, evCs, argStep, asgR, asgD, stSlot, rdVar, mvVar, R.slot, R.frz, opd, look, items, lstOf, inls, p1, p2, pAdd, pSub, pMul, pFdiv, pMod, pCmp, deq, pIx, pMax, pMin, pLen, pList, pTupl, pIsi, mthOn, mthD, stIx, L2.ixN, L2.atI, callOn, arrO, slotsOf, brws, putBack, wipeN, back, recv, pm, shsOf, tt, tab, evB, startNv, d1, hc, e, hz, hz2, chr]
    rfl
  · have e : cs[k]? = none := List.getElem?_eq_none (by omega)
    simp [wp_ok, wp_stuck, wp_bind, wp_of, wp_nox, bind_ok, of_some, evS, evE, evOs, evCs, argStep, asgR, asgD, stSlot, rdVar, mvVar, R.slot, R.frz, opd, look, items, lstOf, inls, p1, p2, pAdd, pSub, pMul, pFdiv, pMod, pCmp, deq, pIx, pMax, pMin, pLen, pList, pTupl, pIsi, mthOn, mthD, stIx, L2.ixN, L2.atI, callOn, arrO, slotsOf, brws, putBack, wipeN, back, recv, pm, shsOf, tt, tab, evB, startNv, d1, hc, hz, hz2, e, chr, z1]
    rfl
def vt (cs : List Nat) : D → Option Nat
  | .int i => some (cs.getD i.toNat 45)
  | _ => none
def vts (cs : List Nat) (hs : List D) : List Nat := hs.filterMap (vt cs)
def TL (cs : List Nat) (hs : List D) : D := .tup [.int hs.length, .int ((vts cs hs).countP (· == 89) : Nat), .int ((vts cs hs).countP (· == 78) : Nat), .int ((vts cs hs).countP (· == 80) : Nat)]
theorem count_chr (vs : List Nat) (c : Nat) : pCount (.lst (vs.map chr)) (.str ⟨#[c]⟩) = some (.val (.int (vs.countP (· == c) : Nat))) := by
  have h1 : ∀ vs : List Nat, (vs.map chr).all flatD = true := fun vs => by simp [chr, flatD]
  have h2 : ∀ vs : List Nat, ((vs.map chr).countP fun z => eqF z (.str ⟨#[c]⟩)) = vs.countP (· == c) := by
    intro vs
    rw [List.countP_map]
    congr 1
    funext x
    simp only [Function.comp, chr, eqF]
    rw [Bool.eq_iff_iff]
    simp
  simp [pCount, flatD, h1, h2]
theorem tally_ok (n : Nat) {chs : List D} (h : ∀ c ∈ chs, ∃ hs, c = .tup hs ∧ HsOk hs ∧ hs.length ≤ 12) (cs : List Nat) (hl : cs.length ≤ 12) (c : Nat) : Φ (n + 2) 2 [.val (.tup chs), .val (.str ⟨cs.toArray⟩), .val (.int c)] = .ok (.val (TL cs (hOf chs c))) [.val (.tup chs), .val (.str ⟨cs.toArray⟩), .val (.int c)] := by
  suffices hh : WpC (Φ (n + 2) 2 [.val (.tup chs), .val (.str ⟨cs.toArray⟩), .val (.int c)]) fun r outs => r = .val (TL cs (hOf chs c)) ∧ outs = [.val (.tup chs), .val (.str ⟨cs.toArray⟩), .val (.int c)] by
    obtain ⟨r, outs, e, rfl, rfl⟩ := hh
    exact e
  obtain ⟨h1, h2, h3, h4⟩ := hOf_ok h c
  refine wpC_df (d := d2) rfl rfl ?_
  refine wp_cons ?_
  refine Wp.imp (Q := fun f nv => f = .nx ∧ nv = [some (.val (.tup chs)), some (.val (.str ⟨cs.toArray⟩)), some (.val (.int c)), some (.val (.tup (hOf chs c))), none, none]) (by simp [wp_ok, wp_stuck, wp_bind, wp_of, wp_nox, bind_ok, of_some, evS, evE, evOs, evCs, argStep, asgR, asgD, stSlot, rdVar, mvVar, R.slot, R.frz, opd, look, items, lstOf, inls, p1, p2, pAdd, pSub, pMul, pFdiv, pMod, pCmp, deq, pIx, pMax, pMin, pLen, pList, pTupl, pIsi, mthOn, mthD, stIx, L2.ixN, L2.atI, callOn, arrO, slotsOf, brws, putBack, wipeN, back, recv, pm, shsOf, tt, tab, startNv, d2, hof_call n h c]) ?_
  rintro f nv ⟨rfl, rfl⟩
  refine wp_cons ?_
  refine Wp.imp (Q := fun f nv => f = .nx ∧ nv = [some (.val (.tup chs)), some (.val (.str ⟨cs.toArray⟩)), some (.val (.int c)), some (.val (.tup (hOf chs c))), some (.lv true ((vts cs (hOf chs c)).map chr)), none]) ?_ ?_
  · rw [evS, wp_bind, evE, wp_bind]
    refine Wp.imp (Q := fun os nv => os = [.inl (.tup (hOf chs c))] ∧ nv = [some (.val (.tup chs)), some (.val (.str ⟨cs.toArray⟩)), some (.val (.int c)), some (.val (.tup (hOf chs c))), none, none]) (by simp [wp_ok, wp_stuck, wp_bind, wp_of, wp_nox, bind_ok, of_some, evS, evE, evOs, evCs, argStep, asgR, asgD, stSlot, rdVar, mvVar, R.slot, R.frz, opd, look, items, lstOf, inls, p1, p2, pAdd, pSub, pMul, pFdiv, pMod, pCmp, deq, pIx, pMax, pMin, pLen, pList, pTupl, pIsi, mthOn, mthD, stIx, L2.ixN, L2.atI, callOn, arrO, slotsOf, brws, putBack, wipeN, back, recv, pm, shsOf, tt, tab]) ?_
    rintro os nv ⟨rfl, rfl⟩
    simp only [items, lstOf, wp_bind, wp_nox, wp_ok]
    refine wp_comp (fun xs acc nv => ∃ ps, HsOk xs ∧ hOf chs c = ps ++ xs ∧ acc = (vts cs ps).map chr ∧ nv = [some (.val (.tup chs)), some (.val (.str ⟨cs.toArray⟩)), some (.val (.int c)), some (.val (.tup (hOf chs c))), none, none]) ⟨[], h1, rfl, rfl, rfl⟩ ?_ ?_
    · rintro d ds acc nv ⟨ps, i1, i2, rfl, rfl⟩
      have i1' : HsOk ds := fun x hx => i1 x (List.mem_cons_of_mem _ hx)
      have hz : (vts cs ps).length < SZ := by
        have a1 : (vts cs ps).length ≤ ps.length := List.length_filterMap_le _ _
        have a2 : ps.length ≤ 12 := by
          have := congrArg List.length i2
          simp at this
          omega
        unfold SZ; omega
      rcases i1 d (List.mem_cons_self ..) with rfl | ⟨k, rfl⟩
      · refine Wp.imp (Q := fun o nv => o = none ∧ nv = [some (.val (.tup chs)), some (.val (.str ⟨cs.toArray⟩)), some (.val (.int c)), some (.val (.tup (hOf chs c))), none, none]) ?_ ?_
        · simp [wp_ok, wp_stuck, wp_bind, wp_of, wp_nox, bind_ok, of_some, evS, evE, evOs, evCs, argStep, asgR, asgD, stSlot, rdVar, mvVar, R.slot, R.frz, opd, look, items, lstOf, inls, p1, p2, pAdd, pSub, pMul, pFdiv, pMod, pCmp, deq, pIx, pMax, pMin, pLen, pList, pTupl, pIsi, mthOn, mthD, stIx, L2.ixN, L2.atI, callOn, arrO, slotsOf, brws, putBack, wipeN, back, recv, pm, shsOf, tt, tab]
        rintro o nv ⟨rfl, rfl⟩
        exact ⟨ps ++ [.non], i1', by simp [i2], by simp [vts, vt], rfl⟩
      · refine Wp.imp (Q := fun o nv => o = some (chr (cs.getD k 45)) ∧ nv = [some (.val (.tup chs)), some (.val (.str ⟨cs.toArray⟩)), some (.val (.int c)), some (.val (.tup (hOf chs c))), none, none]) ?_ ?_
        · simp [wp_ok, wp_stuck, wp_bind, wp_of, wp_nox, bind_ok, of_some, evS, evE, evOs, evCs, argStep, asgR, asgD, stSlot, rdVar, mvVar, R.slot, R.frz, opd, look, items, lstOf, inls, p1, p2, pAdd, pSub, pMul, pFdiv, pMod, pCmp, deq, pIx, pMax, pMin, pLen, pList, pTupl, pIsi, mthOn, mthD, stIx, L2.ixN, L2.atI, callOn, arrO, slotsOf, brws, putBack, wipeN, back, recv, pm, shsOf, tt, tab, vote_call n cs hl k]
        rintro o nv ⟨rfl, rfl⟩
        exact ⟨by simpa using hz, ps ++ [.int k], i1', by simp [i2], by simp [vts, vt], rfl⟩
    · rintro acc nv ⟨ps, i1, i2, rfl, rfl⟩
      rw [List.append_nil] at i2
      subst i2
      simp [wp_ok, wp_stuck, wp_bind, wp_of, wp_nox, bind_ok, of_some, evS, evE, evOs, evCs, argStep, asgR, asgD, stSlot, rdVar, mvVar, R.slot, R.frz, opd, look, items, lstOf, inls, p1, p2, pAdd, pSub, pMul, pFdiv, pMod, pCmp, deq, pIx, pMax, pMin, pLen, pList, pTupl, pIsi, mthOn, mthD, stIx, L2.ixN, L2.atI, callOn, arrO, slotsOf, brws, putBack, wipeN, back, recv, pm, shsOf, tt, tab]
  rintro f nv ⟨rfl, rfl⟩
  refine wp_cons ?_
  have c1 := count_chr (vts cs (hOf chs c)) 89
  rw [← z2] at c1
  have c2 := count_chr (vts cs (hOf chs c)) 78
  rw [← z3] at c2
  have c3 := count_chr (vts cs (hOf chs c)) 80
  rw [← z4] at c3
  simp [wp_ok, wp_stuck, wp_bind, wp_of, wp_nox, bind_ok, of_some, evS, evE, evOs, evCs, argStep, asgR, asgD, stSlot, rdVar, mvVar, R.slot, R.frz, opd, look, items, lstOf, inls, p1, p2, pAdd, pSub, pMul, pFdiv, pMod, pCmp, deq, pIx, pMax, pMin, pLen, pList, pTupl, pIsi, mthOn, mthD, stIx, L2.ixN, L2.atI, callOn, arrO, slotsOf, brws, putBack, wipeN, back, recv, pm, shsOf, tt, tab, c1, c2, c3, SZ, TL]
  rfl
end K00
namespace K00
open PySem G
def cnt3 (vs : List Nat) : List D := [.int (vs.countP (· == 89) : Nat), .int (vs.countP (· == 78) : Nat), .int (vs.countP (· == 80) : Nat)]
theorem vts_non (cs : List Nat) (ps : List D) : vts cs (ps ++ [.non]) = vts cs ps := by
  unfold vts
  rw [List.filterMap_append]
  simp [List.filterMap_cons, vt]
theorem vts_int (cs : List Nat) (ps : List D) (k : Nat) : vts cs (ps ++ [.int k]) = vts cs ps ++ [cs.getD k 45] := by
  unfold vts
  rw [List.filterMap_append]
  simp [List.filterMap_cons, vt]
theorem ltally_ok (n : Nat) {chs : List D} (h : ∀ c ∈ chs, ∃ hs, c = .tup hs ∧ HsOk hs ∧ hs.length ≤ 12) (cs : List Nat) (hl : cs.length ≤ 12) (hcs : ∀ c ∈ cs, c = 89 ∨ c = 78 ∨ c = 80 ∨ c = 45) (c : Nat) : Φ (n + 1) 9 [.val (.tup chs), .val (.str ⟨cs.toArray⟩), .val (.int c)] = .ok (.val (TL cs (hOf chs c))) [.val (.tup chs), .val (.str ⟨cs.toArray⟩), .val (.int c)] := by
  suffices hh : WpC (Φ (n + 1) 9 [.val (.tup chs), .val (.str ⟨cs.toArray⟩), .val (.int c)]) fun r outs => r = .val (TL cs (hOf chs c)) ∧ outs = [.val (.tup chs), .val (.str ⟨cs.toArray⟩), .val (.int c)] by
    obtain ⟨r, outs, e, rfl, rfl⟩ := hh
    exact e
  obtain ⟨h1, h2, h3, h4⟩ := hOf_ok h c
  have hz2 : Str.length ⟨cs.toArray⟩ = cs.length := by simp [Str.length]
  have hz : cs.length ≤ SZ := by unfold SZ; omega
  refine wpC_df (d := d9) rfl rfl ?_
  refine wp_cons ?_
  refine wp_if (k := decide (chs.length ≤ c)) (nv1 := startNv 6 [.val (.tup chs), .val (.str ⟨cs.toArray⟩), .val (.int c)]) (by simp [wp_ok, wp_stuck, wp_bind, wp_of, wp_nox, bind_ok, of_some, evS, evE, evOs, evCs, argStep, asgR, asgD, stSlot, rdVar, mvVar, R.slot, R.frz, opd, look, items, lstOf, inls, p1, p2, pAdd, pSub, pMul, pFdiv, pMod, pCmp, deq, pIx, pMax, pMin, pLen, pList, pTupl, pIsi, mthOn, mthD, stIx, L2.ixN, L2.atI, callOn, arrO, slotsOf, brws, putBack, wipeN, back, recv, pm, shsOf, tt, tab, startNv, d9]) (fun hc => ?_) (fun hc => ?_)
  · have hc : ¬ c < chs.length := by have := of_decide_eq_true hc; omega
    refine wp_cons (wp_ret (r := .val (.tup [.int 0, .int 0, .int 0, .int 0])) (nv1 := startNv 6 [.val (.tup chs), .val (.str ⟨cs.toArray⟩), .val (.int c)]) (by simp [wp_ok, wp_stuck, wp_bind, wp_of, wp_nox, bind_ok, of_some, evS, evE, evOs, evCs, argStep, asgR, asgD, stSlot, rdVar, mvVar, R.slot, R.frz, opd, look, items, lstOf, inls, p1, p2, pAdd, pSub, pMul, pFdiv, pMod, pCmp, deq, pIx, pMax, pMin, pLen, pList, pTupl, pIsi, mthOn, mthD, stIx, L2.ixN, L2.atI, callOn, arrO, slotsOf, brws, putBack, wipeN, back, recv, pm, shsOf, tt, tab, startNv, SZ]) ?_)
    exact ⟨_, rfl, by rw [h4 hc]; rfl, rfl⟩
  · have hc : c < chs.length := by have := of_decide_eq_false hc; omega
    refine wp_nil ?_
    refine wp_cons ?_
    refine Wp.imp (Q := fun f nv => f = .nx ∧ nv = [some (.val (.tup chs)), some (.val (.str ⟨cs.toArray⟩)), some (.val (.int c)), some (.lv true (cnt3 (vts cs []))), none, none]) (by simp [wp_ok, wp_stuck, wp_bind, wp_of, wp_nox, bind_ok, of_some, evS, evE, evOs, evCs, argStep, asgR, asgD, stSlot, rdVar, mvVar, R.slot, R.frz, opd, look, items, lstOf, inls, p1, p2, pAdd, pSub, pMul, pFdiv, pMod, pCmp, deq, pIx, pMax, pMin, pLen, pList, pTupl, pIsi, mthOn, mthD, stIx, L2.ixN, L2.atI, callOn, arrO, slotsOf, brws, putBack, wipeN, back, recv, pm, shsOf, tt, tab, startNv, SZ, cnt3, vts]) ?_
    rintro f nv ⟨rfl, rfl⟩
    refine wp_cons ?_
    refine Wp.imp (Q := fun f nv => f = .nx ∧ ∃ c4 c5, nv = [some (.val (.tup chs)), some (.val (.str ⟨cs.toArray⟩)), some (.val (.int c)), some (.lv true (cnt3 (vts cs (hOf chs c)))), c4, c5]) ?_ ?_
    · rw [evS, wp_bind]
      refine Wp.imp (Q := fun os nv => os = [.inl (.tup (hOf chs c))] ∧ nv = [some (.val (.tup chs)), some (.val (.str ⟨cs.toArray⟩)), some (.val (.int c)), some (.lv true (cnt3 (vts cs []))), none, none]) ?_ ?_
      · simp [wp_ok, wp_stuck, wp_bind, wp_of, wp_nox, bind_ok, of_some, evS, evE, evOs, evCs, argStep, asgR, asgD, stSlot, rdVar, mvVar, R.slot, R.frz, opd, look, items, lstOf, inls, p1, p2, pAdd, pSub, pMul, pFdiv, pMod, pCmp, deq, pIx, pMax, pMin, pLen, pList, pTupl, pIsi, mthOn, mthD, stIx, L2.ixN, L2.atI, callOn, arrO, slotsOf, brws, putBack, wipeN, back, recv, pm, shsOf, tt, tab, hc]
        exact Option.some.inj ((List.getElem?_eq_getElem hc).symm.trans (h3 hc))
      rintro os nv ⟨rfl, rfl⟩
      simp only [items, lstOf]
      refine wp_for (fun xs nv => ∃ ps c4 c5, HsOk xs ∧ hOf chs c = ps ++ xs ∧ nv = [some (.val (.tup chs)), some (.val (.str ⟨cs.toArray⟩)), some (.val (.int c)), some (.lv true (cnt3 (vts cs ps))), Option.map Sl.val c4, Option.map Sl.val c5]) ⟨[], none, none, h1, rfl, rfl⟩ ?_ ?_
      · rintro d ds nv ⟨ps, c4, c5, i1, i2, rfl⟩
        have i1' : HsOk ds := fun x hx => i1 x (List.mem_cons_of_mem _ hx)
        rw [wp_bind]
        refine Wp.imp (Q := fun _ nv => nv = [some (.val (.tup chs)), some (.val (.str ⟨cs.toArray⟩)), some (.val (.int c)), some (.lv true (cnt3 (vts cs ps))), some (.val d), Option.map Sl.val c5]) (by cases c4 <;> simp [wp_ok, wp_stuck, wp_bind, wp_of, wp_nox, bind_ok, of_some, evS, evE, evOs, evCs, argStep, asgR, asgD, stSlot, rdVar, mvVar, R.slot, R.frz, opd, look, items, lstOf, inls, p1, p2, pAdd, pSub, pMul, pFdiv, pMod, pCmp, deq, pIx, pMax, pMin, pLen, pList, pTupl, pIsi, mthOn, mthD, stIx, L2.ixN, L2.atI, callOn, arrO, slotsOf, brws, putBack, wipeN, back, recv, pm]) ?_
        rintro _ nv rfl
        refine wp_cons ?_
        have skip : (cnt3 (vts cs (ps ++ [d])) = cnt3 (vts cs ps)) → Wp (evB (Φ n) (shsOf tt) [] [some (.val (.tup chs)), some (.val (.str ⟨cs.toArray⟩)), some (.val (.int c)), some (.lv true (cnt3 (vts cs ps))), some (.val d), Option.map Sl.val c5]) (fun f nv => match f with
            | .nx => Wp (evB (Φ n) (shsOf tt) [] nv) fun f nv' => f = .nx ∧ ∃ ps c4 c5, HsOk ds ∧ hOf chs c = ps ++ ds ∧ nv' = [some (.val (.tup chs)), some (.val (.str ⟨cs.toArray⟩)), some (.val (.int c)), some (.lv true (cnt3 (vts cs ps))), Option.map Sl.val c4, Option.map Sl.val c5]
            | f => f = .nx ∧ ∃ ps c4 c5, HsOk ds ∧ hOf chs c = ps ++ ds ∧ nv = [some (.val (.tup chs)), some (.val (.str ⟨cs.toArray⟩)), some (.val (.int c)), some (.lv true (cnt3 (vts cs ps))), Option.map Sl.val c4, Option.map Sl.val c5]) := fun e => wp_nil (wp_nil ⟨rfl, ps ++ [d], some d, c5, i1', by simp [i2], by rw [e]; rfl⟩)
        rcases i1 d (List.mem_cons_self ..) with rfl | ⟨k, rfl⟩
        · refine wp_if (k := false) (nv1 := [some (.val (.tup chs)), some (.val (.str ⟨cs.toArray⟩)), some (.val (.int c)), some (.lv true (cnt3 (vts cs ps))), some (.val .non), Option.map Sl.val c5]) (by simp [wp_ok, wp_stuck, wp_bind, wp_of, wp_nox, bind_ok, of_some, evS, evE, evOs, evCs, argStep, asgR, asgD, stSlot, rdVar, mvVar, R.slot, R.frz, opd, look, items, lstOf, inls, p1, p2, pAdd, pSub, pMul, pFdiv, pMod, pCmp, deq, pIx, pMax, pMin, pLen, pList, pTupl, pIsi, mthOn, mthD, stIx, L2.ixN, L2.atI, callOn, arrO, slotsOf, brws, putBack, wipeN, back, recv, pm, shsOf, tt, tab]) (fun z => by cases z) (fun _ => skip (by rw [vts_non]))
        · by_cases hk : k < cs.length
          · obtain ⟨x, ex, hx⟩ : ∃ x, cs[k]? = some x ∧ (x = 89 ∨ x = 78 ∨ x = 80 ∨ x = 45) := ⟨cs[k], List.getElem?_eq_getElem hk, hcs _ (List.getElem_mem hk)⟩
            have ex2 : cs[k] = x := Option.some.inj ((List.getElem?_eq_getElem hk).symm.trans ex)
            have ev : vts cs (ps ++ [.int k]) = vts cs ps ++ [x] := by rw [vts_int]; simp [ex]
            by_cases h45 : x = 45
            · subst h45
              refine wp_if (k := false) (nv1 := [some (.val (.tup chs)), some (.val (.str ⟨cs.toArray⟩)), some (.val (.int c)), some (.lv true (cnt3 (vts cs ps))), some (.val (.int k)), Option.map Sl.val c5]) (by simp [wp_ok, wp_stuck, wp_bind, wp_of, wp_nox, bind_ok, of_some, evS, evE, evOs, evCs, argStep, asgR, asgD, stSlot, rdVar, mvVar, R.slot, R.frz, opd, look, items, lstOf, inls, p1, p2, pAdd, pSub, pMul, pFdiv, pMod, pCmp, deq, pIx, pMax, pMin, pLen, pList, pTupl, pIsi, mthOn, mthD, stIx, L2.ixN, L2.atI, callOn, arrO, slotsOf, brws, putBack, wipeN, back, recv, pm, shsOf, tt, tab, hk, ex2, hz, hz2, z1]) (fun z => by cases z) (fun _ => skip (by rw [ev]; simp [cnt3]))
            · have key : ∀ (j : Nat) (q : List D), Txt.index0 "YNP" ⟨#[x]⟩ = some j → (∃ v : Nat, (cnt3 (vts cs ps))[j]? = some (.int v) ∧ (cnt3 (vts cs ps)).set j (.int ((v : Int) + 1)) = q) → j < 3 → q = cnt3 (vts cs (ps ++ [.int k])) → Wp (evB (Φ n) (shsOf tt) [.asg (.nm 5) (.mop .sidx (.str "YNP") (.op2 .ix (.var 1) (.var 4))), .sti 3 (.var 5) (.op2 .add (.op2 .ix (.var 3) (.var 5)) (.int 1))] [some (.val (.tup chs)), some (.val (.str ⟨cs.toArray⟩)), some (.val (.int c)), some (.lv true (cnt3 (vts cs ps))), some (.val (.int k)), Option.map Sl.val c5]) (fun f nv => match f with
                | .nx => Wp (evB (Φ n) (shsOf tt) [] nv) fun f nv' => f = .nx ∧ ∃ ps c4 c5, HsOk ds ∧ hOf chs c = ps ++ ds ∧ nv' = [some (.val (.tup chs)), some (.val (.str ⟨cs.toArray⟩)), some (.val (.int c)), some (.lv true (cnt3 (vts cs ps))), Option.map Sl.val c4, Option.map Sl.val c5]
                | f => f = .nx ∧ ∃ ps c4 c5, HsOk ds ∧ hOf chs c = ps ++ ds ∧ nv = [some (.val (.tup chs)), some (.val (.str ⟨cs.toArray⟩)), some (.val (.int c)), some (.lv true (cnt3 (vts cs ps))), Option.map Sl.val c4, Option.map Sl.val c5]) := by
                rintro j q hj ⟨v, hv, hq⟩ h3 hqq
                refine wp_cons ?_
                refine Wp.imp (Q := fun f nv => f = .nx ∧ nv = [some (.val (.tup chs)), some (.val (.str ⟨cs.toArray⟩)), some (.val (.int c)), some (.lv true (cnt3 (vts cs ps))), some (.val (.int k)), some (.val (.int j))]) (by cases c5 <;> simp [wp_ok, wp_stuck, wp_bind, wp_of, wp_nox, bind_ok, of_some, evS, evE, evOs, evCs, argStep, asgR, asgD, stSlot, rdVar, mvVar, R.slot, R.frz, opd, look, items, lstOf, inls, p1, p2, pAdd, pSub, pMul, pFdiv, pMod, pCmp, deq, pIx, pMax, pMin, pLen, pList, pTupl, pIsi, mthOn, mthD, stIx, L2.ixN, L2.atI, callOn, arrO, slotsOf, brws, putBack, wipeN, back, recv, pm, shsOf, tt, tab, hk, ex2, hz, hz2, pIndex, hj]) ?_
                rintro f nv ⟨rfl, rfl⟩
                refine wp_cons ?_
                have hlen : (cnt3 (vts cs ps)).length = 3 := rfl
                refine Wp.imp (Q := fun f nv => f = .nx ∧ nv = [some (.val (.tup chs)), some (.val (.str ⟨cs.toArray⟩)), some (.val (.int c)), some (.lv true q), some (.val (.int k)), some (.val (.int j))]) ?_ ?_
                · have h3' : (j : Int) < 3 := by omega
                  simp [wp_ok, wp_stuck, wp_bind, wp_of, wp_nox, bind_ok, of_some, evS, evE, evOs, evCs, argStep, asgR, asgD, stSlot, rdVar, mvVar, R.slot, R.frz, opd, look, items, lstOf, inls, p1, p2, pAdd, pSub, pMul, pFdiv, pMod, pCmp, deq, pIx, pMax, pMin, pLen, pList, pTupl, pIsi, mthOn, mthD, stIx, L2.ixN, L2.atI, callOn, arrO, slotsOf, brws, putBack, wipeN, back, recv, pm, shsOf, tt, tab, hv, hlen, h3', hq]
                rintro f nv ⟨rfl, rfl⟩
                exact wp_nil (wp_nil ⟨rfl, ps ++ [.int k], some (.int k), some (.int j), i1', by simp [i2], by rw [hqq]; rfl⟩)
              refine wp_if (k := true) (nv1 := [some (.val (.tup chs)), some (.val (.str ⟨cs.toArray⟩)), some (.val (.int c)), some (.lv true (cnt3 (vts cs ps))), some (.val (.int k)), Option.map Sl.val c5]) (by simp [wp_ok, wp_stuck, wp_bind, wp_of, wp_nox, bind_ok, of_some, evS, evE, evOs, evCs, argStep, asgR, asgD, stSlot, rdVar, mvVar, R.slot, R.frz, opd, look, items, lstOf, inls, p1, p2, pAdd, pSub, pMul, pFdiv, pMod, pCmp, deq, pIx, pMax, pMin, pLen, pList, pTupl, pIsi, mthOn, mthD, stIx, L2.ixN, L2.atI, callOn, arrO, slotsOf, brws, putBack, wipeN, back, recv, pm, shsOf, tt, tab, hk, ex2, hz, hz2, z1, h45]) (fun _ => ?_) (fun z => by cases z)
              rcases hx with rfl | rfl | rfl | rfl
              · exact key 0 _ y1 ⟨_, rfl, rfl⟩ (by decide) (by rw [ev]; simp [cnt3])
              · exact key 1 _ y2 ⟨_, rfl, rfl⟩ (by decide) (by rw [ev]; simp [cnt3])
              · exact key 2 _ y3 ⟨_, rfl, rfl⟩ (by decide) (by rw [ev]; simp [cnt3])
              · exact absurd rfl h45
          · have ex : cs[k]? = none := List.getElem?_eq_none (by omega)
            have ev : vts cs (ps ++ [.int k]) = vts cs ps ++ [45] := by rw [vts_int]; simp [ex]
            refine wp_if (k := false) (nv1 := [some (.val (.tup chs)), some (.val (.str ⟨cs.toArray⟩)), some (.val (.int c)), some (.lv true (cnt3 (vts cs ps))), some (.val (.int k)), Option.map Sl.val c5]) (by simp [wp_ok, wp_stuck, wp_bind, wp_of, wp_nox, bind_ok, of_some, evS, evE, evOs, evCs, argStep, asgR, asgD, stSlot, rdVar, mvVar, R.slot, R.frz, opd, look, items, lstOf, inls, p1, p2, pAdd, pSub, pMul, pFdiv, pMod, pCmp, deq, pIx, pMax, pMin, pLen, pList, pTupl, pIsi, mthOn, mthD, stIx, L2.ixN, L2.atI, callOn, arrO, slotsOf, brws, putBack, wipeN, back, recv, pm, shsOf, tt, tab, hk, hz, hz2]) (fun z => by cases z) (fun _ => skip (by rw [ev]; simp [cnt3]))
      · rintro nv ⟨ps, c4, c5, i1, i2, rfl⟩
        rw [List.append_nil] at i2
        subst i2
        exact ⟨rfl, _, _, rfl⟩
    rintro f nv ⟨rfl, c4, c5, rfl⟩
    refine wp_cons (wp_ret (r := .val (TL cs (hOf chs c))) (nv1 := [some (.val (.tup chs)), some (.val (.str ⟨cs.toArray⟩)), some (.val (.int c)), some (.lv true (cnt3 (vts cs (hOf chs c)))), c4, c5]) ?_ ?_)
    · have hg := Option.some.inj ((List.getElem?_eq_getElem hc).symm.trans (h3 hc))
      simp [wp_ok, wp_stuck, wp_bind, wp_of, wp_nox, bind_ok, of_some, evS, evE, evOs, evCs, argStep, asgR, asgD, stSlot, rdVar, mvVar, R.slot, R.frz, opd, look, items, lstOf, inls, p1, p2, pAdd, pSub, pMul, pFdiv, pMod, pCmp, deq, pIx, pMax, pMin, pLen, pList, pTupl, pIsi, mthOn, mthD, stIx, L2.ixN, L2.atI, callOn, arrO, slotsOf, brws, putBack, wipeN, back, recv, pm, shsOf, tt, tab, hc, hg, cnt3, SZ, TL]
    · exact ⟨_, rfl, rfl, rfl⟩
end K00
namespace K00
open PySem G
theorem same_int (n : Nat) (a : Int) : Φ (n + 1) 5 [.val (.int a), .val (.int a)] = .ok (.val (.bl true)) [.val (.int a), .val (.int a)] := by
  suffices hh : WpC (Φ (n + 1) 5 [.val (.int a), .val (.int a)]) fun r outs => r = .val (.bl true) ∧ outs = [.val (.int a), .val (.int a)] by
    obtain ⟨r, outs, e, rfl, rfl⟩ := hh
    exact e
  refine wpC_df (d := d5) rfl rfl ?_
  simp [wp_ok, wp_stuck, wp_bind, wp_of, wp_nox, bind_ok, of_some, evS, evE, evOs, evCs, argStep, asgR, asgD, stSlot, rdVar, mvVar, R.slot, R.frz, opd, look, items, lstOf, inls, p1, p2, pAdd, pSub, pMul, pFdiv, pMod, pCmp, deq, pIx, pMax, pMin, pLen, pList, pTupl, pIsi, mthOn, mthD, stIx, L2.ixN, L2.atI, callOn, arrO, slotsOf, brws, putBack, wipeN, back, recv, pm, shsOf, tt, tab, evB, startNv, d5]
  rfl
theorem same4 (n : Nat) (a b c d : Int) : Φ (n + 2) 5 [.val (.tup [.int a, .int b, .int c, .int d]), .val (.tup [.int a, .int b, .int c, .int d])] = .ok (.val (.bl true)) [.val (.tup [.int a, .int b, .int c, .int d]), .val (.tup [.int a, .int b, .int c, .int d])] := by
  suffices hh : WpC (Φ (n + 2) 5 [.val (.tup [.int a, .int b, .int c, .int d]), .val (.tup [.int a, .int b, .int c, .int d])]) fun r outs => r = .val (.bl true) ∧ outs = [.val (.tup [.int a, .int b, .int c, .int d]), .val (.tup [.int a, .int b, .int c, .int d])] by
    obtain ⟨r, outs, e, rfl, rfl⟩ := hh
    exact e
  refine wpC_df (d := d5) rfl rfl ?_
  simp [wp_ok, wp_stuck, wp_bind, wp_of, wp_nox, bind_ok, of_some, evS, evE, evOs, evCs, argStep, asgR, asgD, stSlot, rdVar, mvVar, R.slot, R.frz, opd, look, items, lstOf, inls, p1, p2, pAdd, pSub, pMul, pFdiv, pMod, pCmp, deq, pIx, pMax, pMin, pLen, pList, pTupl, pIsi, mthOn, mthD, stIx, L2.ixN, L2.atI, callOn, arrO, slotsOf, brws, putBack, wipeN, back, recv, pm, shsOf, tt, tab, evB, startNv, d5, b62, List.range, List.range.loop, forLoop, same_int]
  rfl
theorem sameTL (n : Nat) (cs : List Nat) (hs : List D) : Φ (n + 2) 5 [.val (TL cs hs), .val (TL cs hs)] = .ok (.val (.bl true)) [.val (TL cs hs), .val (TL cs hs)] := same4 n _ _ _ _
def RowOk (x : D) : Prop := ∃ se ro, x = .lst [se, ro] ∧ SeOk se ∧ RollOk ro
theorem law_ok (ns : List Int) : WpC (Φ 12 10 [.val (.scr ns)]) fun r outs => r = .val (.bl true) := by
  refine wpC_df (d := d10) rfl rfl ?_
  obtain ⟨_, _, e1, rfl, t, ht, rfl⟩ := tape_ok 10 ns
  have T1 : Tp [.lst (ns.map .int), .int 0, .int 0, .int t] := ⟨ns, 0, 0, t, by decide, ht, rfl⟩
  obtain ⟨_, _, e2, se, tape2, rfl, rfl, T2, S1⟩ := seats_ok 8 _ T1
  obtain ⟨_, _, e3, m1, tape3, rfl, rfl, T3, m10, m11⟩ := draw_ok 10 _ T2 13 (by decide)
  have m11 : m1 < 13 := m11
  obtain ⟨_, _, e4, r1, tape4, rfl, rfl, T4, R1⟩ := roll_ok 9 _ T3 m1 m10 (by omega)
  obtain ⟨_, _, e5, m2, tape5, rfl, rfl, T5, m20, m21⟩ := draw_ok 10 _ T4 13 (by decide)
  have m21 : m2 < 13 := m21
  obtain ⟨_, _, e6, r2, tape6, rfl, rfl, T6, R2⟩ := roll_ok 9 _ T5 m2 m20 (by omega)
  obtain ⟨_, _, e7, se2, tape7, rfl, rfl, T7, S2⟩ := seats_ok 8 _ T6
  refine wp_cons ?_
  refine Wp.imp (Q := fun f nv => f = .nx ∧ nv = [some (.val (.scr ns)), some (.lv true [.lst (ns.map .int), .int 0, .int 0, .int t]), none, none, none, none, none]) (by simp [wp_ok, wp_stuck, wp_bind, wp_of, wp_nox, bind_ok, of_some, evS, evE, evOs, evCs, argStep, asgR, asgD, stSlot, rdVar, mvVar, R.slot, R.frz, opd, look, items, lstOf, inls, p1, p2, pAdd, pSub, pMul, pFdiv, pMod, pCmp, deq, pIx, pMax, pMin, pLen, pList, pTupl, pIsi, mthOn, mthD, stIx, L2.ixN, L2.atI, callOn, arrO, slotsOf, brws, putBack, wipeN, back, recv, pm, shsOf, tt, tab, e1, startNv, d10]) ?_
  rintro f nv ⟨rfl, rfl⟩
  refine wp_cons ?_
  refine Wp.imp (Q := fun f nv => f = .nx ∧ nv = [some (.val (.scr ns)), some (.lv true tape2), some (.val se), none, none, none, none]) (by simp [wp_ok, wp_stuck, wp_bind, wp_of, wp_nox, bind_ok, of_some, evS, evE, evOs, evCs, argStep, asgR, asgD, stSlot, rdVar, mvVar, R.slot, R.frz, opd, look, items, lstOf, inls, p1, p2, pAdd, pSub, pMul, pFdiv, pMod, pCmp, deq, pIx, pMax, pMin, pLen, pList, pTupl, pIsi, mthOn, mthD, stIx, L2.ixN, L2.atI, callOn, arrO, slotsOf, brws, putBack, wipeN, back, recv, pm, shsOf, tt, tab, e2]) ?_
  rintro f nv ⟨rfl, rfl⟩
  refine wp_cons ?_
  refine Wp.imp (Q := fun f nv => f = .nx ∧ nv = [some (.val (.scr ns)), some (.lv true tape4), some (.val se), some (.val r1), none, none, none]) (by simp [wp_ok, wp_stuck, wp_bind, wp_of, wp_nox, bind_ok, of_some, evS, evE, evOs, evCs, argStep, asgR, asgD, stSlot, rdVar, mvVar, R.slot, R.frz, opd, look, items, lstOf, inls, p1, p2, pAdd, pSub, pMul, pFdiv, pMod, pCmp, deq, pIx, pMax, pMin, pLen, pList, pTupl, pIsi, mthOn, mthD, stIx, L2.ixN, L2.atI, callOn, arrO, slotsOf, brws, putBack, wipeN, back, recv, pm, shsOf, tt, tab, e3, e4]) ?_
  rintro f nv ⟨rfl, rfl⟩
  refine wp_cons ?_
  refine Wp.imp (Q := fun f nv => f = .nx ∧ nv = [some (.val (.scr ns)), some (.lv true tape6), some (.val se), some (.val r1), some (.val r2), none, none]) (by simp [wp_ok, wp_stuck, wp_bind, wp_of, wp_nox, bind_ok, of_some, evS, evE, evOs, evCs, argStep, asgR, asgD, stSlot, rdVar, mvVar, R.slot, R.frz, opd, look, items, lstOf, inls, p1, p2, pAdd, pSub, pMul, pFdiv, pMod, pCmp, deq, pIx, pMax, pMin, pLen, pList, pTupl, pIsi, mthOn, mthD, stIx, L2.ixN, L2.atI, callOn, arrO, slotsOf, brws, putBack, wipeN, back, recv, pm, shsOf, tt, tab, e5, e6]) ?_
  rintro f nv ⟨rfl, rfl⟩
  refine wp_cons ?_
  refine Wp.imp (Q := fun f nv => f = .nx ∧ ∃ c5 c6, nv = [some (.val (.scr ns)), some (.lv true tape7), some (.val se), some (.val r1), some (.val r2), c5, c6]) ?_ ?_
  · rw [evS, wp_bind]
    refine Wp.imp (Q := fun os nv => os = [.inl (.lst [.lst [se, r1], .lst [se, r2], .lst [se2, r2]])] ∧ nv = [some (.val (.scr ns)), some (.lv true tape7), some (.val se), some (.val r1), some (.val r2), none, none]) (by simp [wp_ok, wp_stuck, wp_bind, wp_of, wp_nox, bind_ok, of_some, evS, evE, evOs, evCs, argStep, asgR, asgD, stSlot, rdVar, mvVar, R.slot, R.frz, opd, look, items, lstOf, inls, p1, p2, pAdd, pSub, pMul, pFdiv, pMod, pCmp, deq, pIx, pMax, pMin, pLen, pList, pTupl, pIsi, mthOn, mthD, stIx, L2.ixN, L2.atI, callOn, arrO, slotsOf, brws, putBack, wipeN, back, recv, pm, shsOf, tt, tab, e7, SZ]) ?_
    rintro os nv ⟨rfl, rfl⟩
    simp only [items, lstOf]
    refine wp_for (fun xs nv => (∀ x ∈ xs, RowOk x) ∧ ∃ c5 c6, nv = [some (.val (.scr ns)), some (.lv true tape7), some (.val se), some (.val r1), some (.val r2), Option.map Sl.val c5, Option.map Sl.val c6]) ⟨?_, none, none, rfl⟩ ?_ ?_
    · intro x hx
      simp only [List.mem_cons, List.not_mem_nil, or_false] at hx
      rcases hx with rfl | rfl | rfl
      · exact ⟨_, _, rfl, S1, R1⟩
      · exact ⟨_, _, rfl, S1, R2⟩
      · exact ⟨_, _, rfl, S2, R2⟩
    · rintro d ds nv ⟨i1, c5, c6, rfl⟩
      obtain ⟨sx, rx, rfl, ⟨chs, rfl, q1, q2⟩, ⟨cs, rfl, q3, q4⟩⟩ := i1 d (List.mem_cons_self ..)
      have i1' : ∀ x ∈ ds, RowOk x := fun x hx => i1 x (List.mem_cons_of_mem _ hx)
      rw [wp_bind]
      refine Wp.imp (Q := fun _ nv => nv = [some (.val (.scr ns)), some (.lv true tape7), some (.val se), some (.val r1), some (.val r2), some (.val (.lst [.tup chs, .str ⟨cs.toArray⟩])), Option.map Sl.val c6]) (by cases c5 <;> simp [wp_ok, wp_stuck, wp_bind, wp_of, wp_nox, bind_ok, of_some, evS, evE, evOs, evCs, argStep, asgR, asgD, stSlot, rdVar, mvVar, R.slot, R.frz, opd, look, items, lstOf, inls, p1, p2, pAdd, pSub, pMul, pFdiv, pMod, pCmp, deq, pIx, pMax, pMin, pLen, pList, pTupl, pIsi, mthOn, mthD, stIx, L2.ixN, L2.atI, callOn, arrO, slotsOf, brws, putBack, wipeN, back, recv, pm]) ?_
      rintro _ nv rfl
      refine wp_cons ?_
      refine Wp.imp (Q := fun f nv => f = .nx ∧ ∃ c6, nv = [some (.val (.scr ns)), some (.lv true tape7), some (.val se), some (.val r1), some (.val r2), some (.val (.lst [.tup chs, .str ⟨cs.toArray⟩])), Option.map Sl.val c6]) ?_ ?_
      · rw [evS, wp_bind]
        refine Wp.imp (Q := fun os nv => os = [.inl (.int 4)] ∧ nv = [some (.val (.scr ns)), some (.lv true tape7), some (.val se), some (.val r1), some (.val r2), some (.val (.lst [.tup chs, .str ⟨cs.toArray⟩])), Option.map Sl.val c6]) (by simp [wp_ok, wp_stuck, wp_bind, wp_of, wp_nox, bind_ok, of_some, evS, evE, evOs, evCs, argStep, asgR, asgD, stSlot, rdVar, mvVar, R.slot, R.frz, opd, look, items, lstOf, inls, p1, p2, pAdd, pSub, pMul, pFdiv, pMod, pCmp, deq, pIx, pMax, pMin, pLen, pList, pTupl, pIsi, mthOn, mthD, stIx, L2.ixN, L2.atI, callOn, arrO, slotsOf, brws, putBack, wipeN, back, recv, pm, shsOf, tt, tab]) ?_
        rintro os nv ⟨rfl, rfl⟩
        have e8 : items .rng [.inl (.int 4)] = some [.int (0 : Nat), .int (1 : Nat), .int (2 : Nat), .int (3 : Nat)] := rfl
        rw [e8]
        refine wp_for (fun xs nv => (∀ x ∈ xs, ∃ c : Nat, x = .int c) ∧ ∃ c6, nv = [some (.val (.scr ns)), some (.lv true tape7), some (.val se), some (.val r1), some (.val r2), some (.val (.lst [.tup chs, .str ⟨cs.toArray⟩])), Option.map Sl.val c6]) ⟨?_, c6, rfl⟩ ?_ ?_
        · intro x hx
          simp only [List.mem_cons, List.not_mem_nil, or_false] at hx
          rcases hx with rfl | rfl | rfl | rfl
          · exact ⟨0, rfl⟩
          · exact ⟨1, rfl⟩
          · exact ⟨2, rfl⟩
          · exact ⟨3, rfl⟩
        · rintro d ds nv ⟨j1, c6, rfl⟩
          obtain ⟨c, rfl⟩ := j1 d (List.mem_cons_self ..)
          have j1' : ∀ x ∈ ds, ∃ c : Nat, x = .int c := fun x hx => j1 x (List.mem_cons_of_mem _ hx)
          rw [wp_bind]
          refine Wp.imp (Q := fun _ nv => nv = [some (.val (.scr ns)), some (.lv true tape7), some (.val se), some (.val r1), some (.val r2), some (.val (.lst [.tup chs, .str ⟨cs.toArray⟩])), some (.val (.int c))]) (by cases c6 <;> simp [wp_ok, wp_stuck, wp_bind, wp_of, wp_nox, bind_ok, of_some, evS, evE, evOs, evCs, argStep, asgR, asgD, stSlot, rdVar, mvVar, R.slot, R.frz, opd, look, items, lstOf, inls, p1, p2, pAdd, pSub, pMul, pFdiv, pMod, pCmp, deq, pIx, pMax, pMin, pLen, pList, pTupl, pIsi, mthOn, mthD, stIx, L2.ixN, L2.atI, callOn, arrO, slotsOf, brws, putBack, wipeN, back, recv, pm]) ?_
          rintro _ nv rfl
          have a1 := tally_ok 9 q1 cs q4 c
          have a2 := ltally_ok 10 q1 cs q4 q3 c
          have a3 := sameTL 9 cs (hOf chs c)
          refine wp_cons ?_
          refine wp_if (k := false) (nv1 := [some (.val (.scr ns)), some (.lv true tape7), some (.val se), some (.val r1), some (.val r2), some (.val (.lst [.tup chs, .str ⟨cs.toArray⟩])), some (.val (.int c))]) (by simp [wp_ok, wp_stuck, wp_bind, wp_of, wp_nox, bind_ok, of_some, evS, evE, evOs, evCs, argStep, asgR, asgD, stSlot, rdVar, mvVar, R.slot, R.frz, opd, look, items, lstOf, inls, p1, p2, pAdd, pSub, pMul, pFdiv, pMod, pCmp, deq, pIx, pMax, pMin, pLen, pList, pTupl, pIsi, mthOn, mthD, stIx, L2.ixN, L2.atI, callOn, arrO, slotsOf, brws, putBack, wipeN, back, recv, pm, shsOf, tt, tab, a1, a2, a3]) (fun z => by cases z) (fun _ => ?_)
          exact wp_nil (wp_nil ⟨rfl, j1', some (.int c), rfl⟩)
        · rintro nv ⟨_, c6, rfl⟩
          exact ⟨rfl, c6, rfl⟩
      rintro f nv ⟨rfl, c6, rfl⟩
      exact wp_nil ⟨rfl, i1', some (.lst [.tup chs, .str ⟨cs.toArray⟩]), c6, rfl⟩
    · rintro nv ⟨_, c5, c6, rfl⟩
      exact ⟨rfl, _, _, rfl⟩
  rintro f nv ⟨rfl, c5, c6, rfl⟩
  refine wp_cons (wp_ret (r := .val (.bl true)) (nv1 := [some (.val (.scr ns)), some (.lv true tape7), some (.val se), some (.val r1), some (.val r2), c5, c6]) (by simp [wp_ok, wp_stuck, wp_bind, wp_of, wp_nox, bind_ok, of_some, evS, evE, evOs, evCs, argStep, asgR, asgD, stSlot, rdVar, mvVar, R.slot, R.frz, opd, look, items, lstOf, inls, p1, p2, pAdd, pSub, pMul, pFdiv, pMod, pCmp, deq, pIx, pMax, pMin, pLen, pList, pTupl, pIsi, mthOn, mthD, stIx, L2.ixN, L2.atI, callOn, arrO, slotsOf, brws, putBack, wipeN, back, recv, pm, shsOf, tt, tab]) ?_)
  exact ⟨_, rfl, rfl⟩
theorem pure_ok : ∀ ns : List Int, ns.length ≤ 63 → ∃ outs, calls dfs (shsOf tt) 12 10 [.val (.scr ns)] = .ok (.val (.bl true)) outs := fun ns _ => by
  obtain ⟨r, outs, e, rfl⟩ := law_ok ns
  exact ⟨outs, e⟩
end K00
open PySem PySem.W PyProof.Rows
set_option maxHeartbeats 0 in
theorem PySem.Challenge.cw_gazette_k00_tally_counts_seats_holds : PySem.Challenge.rw_gazette_k00_tally_counts_seats.Holds := by
  w_on; o_law; k_head; (case hw => w_witness2)
  k_fill
  refine L2.walk_of (l := PySem.Challenge.rw_gazette_k00_tally_counts_seats) (n := 63) (k := 12) (x := "script") (CX := fun w => L2.CX PySem.Challenge.rw_gazette_k00_tally_counts_seats.prog w) (sp := fun w => G.spLaw _) rfl (by decide) rfl ⟨rfl, by decide, by decide⟩ (fun w h Y => PySem.W.kIn_of Y) ?F (fun _ _ a ns hl _ hS => ⟨a, ns, rfl, hS, hl, fun _ => rfl⟩) (fun _ _ _ _ _ h => G.cx_no h)
  case F =>
    intro w mg fa h KX G hmg
    refine' K00.all_mk KX G hmg ?a0 ?l0 ?q0 ?k0 ?a1 ?l1 ?q1 ?k1 ?a2 ?l2 ?q2 ?k2 ?a3 ?l3 ?q3 ?k3 ?a4 ?l4 ?q4 ?k4 ?a5 ?l5 ?q5 ?k5 ?a6 ?l6 ?q6 ?k6 ?a7 ?l7 ?q7 ?k7 ?a8 ?l8 ?q8 ?k8 ?a9 ?l9 ?q9 ?k9 ?a10 ?l10 ?q10 ?k10 ?z0 ?z1 ?z2 ?z3 ?z4 ?z5 ?z6 ?z7 ?z8 ?z9 ?z10 ?z11 ?z12 ?z13 K00.pure_ok
    (case a0 => k_is)
    (case l0 => k_is)
    (case q0 => k_is)
    (case k0 => k_is)
    (case a1 => k_is)
    (case l1 => k_is)
    (case q1 => k_is)
    (case k1 => k_is)
    (case a2 => k_is)
    (case l2 => k_is)
    (case q2 => k_is)
    (case k2 => k_is)
    (case a3 => k_is)
    (case l3 => k_is)
    (case q3 => k_is)
    (case k3 => k_is)
    (case a4 => k_is)
    (case l4 => k_is)
    (case q4 => k_is)
    (case k4 => k_is)
    (case a5 => k_is)
    (case l5 => k_is)
    (case q5 => k_is)
    (case k5 => k_is)
    (case a6 => k_is)
    (case l6 => k_is)
    (case q6 => k_is)
    (case k6 => k_is)
    (case a7 => k_is)
    (case l7 => k_is)
    (case q7 => k_is)
    (case k7 => k_is)
    (case a8 => k_is)
    (case l8 => k_is)
    (case q8 => k_is)
    (case k8 => k_is)
    (case a9 => k_is)
    (case l9 => k_is)
    (case q9 => k_is)
    (case k9 => k_is)
    (case a10 => k_is)
    (case l10 => k_is)
    (case q10 => k_is)
    (case k10 => k_is)
    (case z0 => k_is)
    (case z1 => k_is)
    (case z2 => k_is)
    (case z3 => k_is)
    (case z4 => k_is)
    (case z5 => k_is)
    (case z6 => k_is)
    (case z7 => k_is)
    (case z8 => k_is)
    (case z9 => k_is)
    (case z10 => k_is)
    (case z11 => k_is)
    (case z12 => k_is)
    (case z13 => k_is)
