import PyProof.Rows.All
import Wide.All
import OpenK.AllK
import Wide.FinOn
import HandS.ForMost
import HandS.ForExc
import HandS.Wide
import HandS.Flow
import HandS.IsInst
import HandS.StrMore
import HandS.SetFor
import HandS.TupAny
import HandS.Zip
import HandS.Rev
import HandS.Iter
import KE.DataEq
import HandS.Conv
import HandS.Lambda
import PyProof.Rows.StrMul
import HandS.TupLe
import KE.DataCmp
import KE.KTupSum
import HandS.WordsExc
import HandS.Ends
import HandS.Star
import KE.GoesMore
import HandS.Zip0
import HandS.RevRange
import HandS.Remove
import KE.KIndexOf
import KE.DataMinMax
import KE.SortLaws
import HandS.Strs
import HandS.Style
import HandS.TupSets
import KE.SortData
import KE.SortKeyHeap
import HandS.SortKw
import HandS.Nested
import HandS.MakeKwOnly
import HandS.EndTab
import PySem.Challenge.RW_gazette_k03_whole_only_named_matters
set_option Elab.async false
set_option linter.all false
set_option maxRecDepth 100000
set_option maxHeartbeats 1000000
namespace GT
open PySem PySem.Spec PyProof.Rows L2 HT
/-! ### tuples whose object is known: it has no dict -/
def NT (o : Obj) : Prop := o.cls = .type "tuple" ∧ o.dict = none
/-- a new tuple -/
def MkT (H : Hp) (xs : List V) (Q : VK) : Prop := ∀ (p : Addr) (o : Obj), H p = none → NT o → Q (.ref p) (upd H p (.frz o (.tup xs)))
def TupM (H : Hp) (a : Addr) (xs : List V) : Prop := ∃ o, H a = some (.frz o (.tup xs)) ∧ NT o
def SqN (K : PySem.W.Frag) (H : Hp) (a : Addr) (xs : List V) : Prop :=
  TupM H a xs ∨ ∃ (o : Obj) (its : Array Value) (n : Nat), K.lookup a = some o ∧ o.cls = .type "tuple" ∧ o.dict = none ∧ o.data = .seq its n ∧ its.size ≤ sizeLine ∧ Vals xs its.toList
theorem SqN.t {K : PySem.W.Frag} {H : Hp} {a : Addr} {xs : List V} (h : SqN K H a xs) : SqT K H a xs := by
  rcases h with ⟨o, h, _⟩ | ⟨o, its, n, h1, h2, _, h4, h5, h6⟩
  · exact .inl (.inr ⟨o, h⟩)
  · exact .inr ⟨o, its, n, h1, h2, h4, h5, h6⟩
section
variable {X : Cx} {pins : List (Addr × Obj)} {σ : L2.St} {H : Hp} {s : Shared}
theorem newOk {h : Heap} {a : Addr} {o : Obj} {xs : List V} {its : List Value} {n : Nat} (hT : h.get? a = some o) (ho : NT o) (hd : o.data = .seq its.toArray n) (z : xs.length ≤ sizeLine) (r : Vals xs its) :
    ObjOk X.prog X.w (upd H a (.frz o (.tup xs))) h a (.frz o (.tup xs)) := ⟨hT, z, its, r, o, hT, ho.1, n, hd⟩
theorem newT {t' : Nat} {o : Obj} {xs : List V} {its : List Value} {n : Nat} {h' : Heap} {Q : VK} (I : Inv X pins σ H s) (k : ∀ b u, s.heap.get? b = some u → h'.get? b = some u) {a : Addr} (ha : s.heap.objs.size ≤ a) (hT : h'.get? a = some o) (ho : NT o)
    (hd : o.data = .seq its.toArray n) (z : xs.length ≤ sizeLine) (r : Vals xs its) (q : MkT H xs Q) : EP X pins σ Q (.ref a) { s with heap := h', toks := t' } :=
  ⟨.ref a, upd H a (.frz o (.tup xs)), I.laid k ha (newOk hT ho hd z r), rfl, q _ _ (I.hok.fresh ha) ho⟩
theorem newP {xs : List V} {its : List Value} {Q : VK} {t' : Nat} (I : Inv X pins σ H s) (z : xs.length ≤ sizeLine) (r : Vals xs its) (q : MkT H xs Q) :
    EP X pins σ Q (.ref s.heap.objs.size) { s with heap := s.heap.push { cls := .type "tuple", data := .seq its.toArray }, toks := t' } :=
  newT I (fun b u e => Heap.get?_push_of_some _ e) (Nat.le_refl _) (Heap.get?_push_size _ rfl) ⟨rfl, rfl⟩ rfl z r q
end
/-! displays -/
def tTupN (t : TA) : TE := fun σ H Q => t σ H fun xs H1 => xs.length ≤ sizeLine ∧ MkT H1 xs Q
theorem pe_tupN {X : Cx} {es : List Expr} {t : TA} {pos : Pos} {x1} (h : PA X es t) : PE X (.Tuple es x1 pos) (tTupN t) := by
  refine ⟨fun pins s σ H Q I hq => ?_⟩
  refine wpAny_Tuple_spliced (thn (h.run pos pins s σ H _ I hq) fun us s1 ⟨xs, H1, I1, r, z, q⟩ => ⟨by rw [← r.length]; exact z, ?_⟩)
  exact newP (t' := s1.toks) I1 z r q
section
variable {X : Cx}
/-! tuple(x) -/
theorem call_tuple_ofN : CallR X (.type "tuple") (fun xs H Q => ∃ p ys, xs = [.ref p] ∧ ((SqL X.K H p ys ∧ MkT H ys Q) ∨ (SqT X.K H p ys ∧ Q (.ref p) H))) := by
  intro pins s σ H xs us Q I r h
  obtain ⟨p, ys, rfl, h⟩ := h
  obtain ⟨u, rfl, rx⟩ := vals1 r
  cases rx
  rcases h with ⟨hq, q⟩ | ⟨hq, q⟩
  · obtain ⟨its, r', pl, hz⟩ := I.list hq
    refine call_tuple_list pl.isList (fun h' kp => ?_) (by rw [List.size_toArray, ← r'.length]; exact hz)
    have I1 : Inv X pins σ H { s with heap := h' } := I.kept (t' := s.toks) kp
    exact newP (t' := s.toks) I1 hz r' q
  · obtain ⟨its, r', pl, hz⟩ := I.tuple hq
    exact call_tuple_same pl ⟨.ref p, H, I, rfl, q⟩
/-! slices -/
/-! t + u -/
def rCatN (K : PySem.W.Frag) : R2 := fun x y H Q => ∃ a b xs ys, x = .ref a ∧ y = .ref b ∧ SqT K H a xs ∧ SqT K H b ys ∧ xs.length + ys.length ≤ sizeLine ∧
  (xs = [] → Q (.ref b) H) ∧ (xs ≠ [] → ys = [] → Q (.ref a) H) ∧ (xs ≠ [] → ys ≠ [] → MkT H (xs ++ ys) Q)
theorem op_catN : OpR X (binaryOp .Add) (rCatN X.K) := by
  intro pins s σ H x y v u Q I rx ry h
  obtain ⟨a, b, xs, ys, rfl, rfl, ha, hb, hz, q0, q1, q2⟩ := h
  cases rx
  cases ry
  obtain ⟨its, r1, p1, _⟩ := I.tuple ha
  obtain ⟨its2, r2, p2, _⟩ := I.tuple hb
  by_cases hx : xs = []
  · subst hx
    cases r1
    exact cat_tup0 p1 p2 ⟨.ref b, H, I, rfl, q0 rfl⟩
  · refine HT.cat_tup p1 p2 (fun z => hx (r1.nil_iff.mp z)) (fun z => ⟨.ref a, H, I, rfl, q1 hx (r2.nil_iff.mp z)⟩) (fun z => ?_) (by rw [← r1.length, ← r2.length]; exact hz)
    exact newP (t' := s.toks) I (by rw [List.length_append]; exact hz) (r1.append r2) (q2 hx fun w => z (r2.nil_iff.mpr w))
/-! divmod -/
end
/-! enumerate(list) -/
end GT
namespace G
open PySem PySem.Spec PyProof.Rows L2
/-! ### data -/
inductive D where
  | non | bl (b : Bool) | int (i : Int) | str (s : Str) | tup (xs : List D) | lst (xs : List D) | scr (ns : List Int) | dct (ks : List Int) (ds : List D)
  deriving Inhabited
/-- a dict of ints -/
def zk (ks : List Int) (vs : List V) : List (Key × V) := (ks.map Sum.inl).zip vs
mutual
def Rep (K : PySem.W.Frag) (M : Hp) : D → V → Prop
  | .non, v => v = .non
  | .bl b, v => v = .bl b
  | .int i, v => v = .int i
  | .str s, v => v = .str s
  | .tup ds, v => ∃ a vs, v = .ref a ∧ GT.SqN K M a vs ∧ Reps K M ds vs
  | .lst ds, v => ∃ a vs, v = .ref a ∧ M a = some (.lst vs) ∧ Reps K M ds vs
  | .scr ns, v => ∃ a, v = .ref a ∧ SqL K M a (ns.map V.int)
  | .dct ks ds, v => ∃ a vs, v = .ref a ∧ M a = some (.dK (zk ks vs)) ∧ ks.length = ds.length ∧ Reps K M ds vs
def Reps (K : PySem.W.Frag) (M : Hp) : List D → List V → Prop
  | [], vs => vs = []
  | d :: ds, vs => ∃ v vs', vs = v :: vs' ∧ Rep K M d v ∧ Reps K M ds vs'
end
theorem Same.sqt {K : PySem.W.Frag} {H H' : Hp} {a : Addr} {xs : List V} (e : Same H H') (h : SqT K H a xs) : SqT K H' a xs := by
  rcases h with (h | ⟨o, h⟩) | h
  · exact .inl (.inl (e _ _ h))
  · exact .inl (.inr ⟨o, e _ _ h⟩)
  · exact .inr h
theorem Same.sqn {K : PySem.W.Frag} {H H' : Hp} {a : Addr} {xs : List V} (e : Same H H') (h : GT.SqN K H a xs) : GT.SqN K H' a xs := by
  rcases h with ⟨o, h, n⟩ | h
  · exact .inl ⟨o, e _ _ h, n⟩
  · exact .inr h
section
variable {K : PySem.W.Frag} {M M' : Hp}
mutual
theorem Rep.mono (e : Same M M') : ∀ {d : D} {v : V}, Rep K M d v → Rep K M' d v
  | .non, _, h => by simp only [Rep] at h ⊢; exact h
  | .bl _, _, h => by simp only [Rep] at h ⊢; exact h
  | .int _, _, h => by simp only [Rep] at h ⊢; exact h
  | .str _, _, h => by simp only [Rep] at h ⊢; exact h
  | .tup ds, _, h => by
    simp only [Rep] at h ⊢
    obtain ⟨a, vs, e1, e2, e3⟩ := h
    exact ⟨a, vs, e1, Same.sqn e e2, Reps.mono e e3⟩
  | .lst ds, _, h => by
    simp only [Rep] at h ⊢
    obtain ⟨a, vs, e1, e2, e3⟩ := h
    exact ⟨a, vs, e1, e _ _ e2, Reps.mono e e3⟩
  | .scr ns, _, h => by
    simp only [Rep] at h ⊢
    obtain ⟨a, e1, e2⟩ := h
    exact ⟨a, e1, e.seq e2⟩
  | .dct ks ds, _, h => by
    simp only [Rep] at h ⊢
    obtain ⟨a, vs, e1, e2, e3, e4⟩ := h
    exact ⟨a, vs, e1, e _ _ e2, e3, Reps.mono e e4⟩
theorem Reps.mono (e : Same M M') : ∀ {ds : List D} {vs : List V}, Reps K M ds vs → Reps K M' ds vs
  | [], _, h => by simp only [Reps] at h ⊢; exact h
  | d :: ds, _, h => by
    simp only [Reps] at h ⊢
    obtain ⟨v, vs', e1, e2, e3⟩ := h
    exact ⟨v, vs', e1, Rep.mono e e2, Reps.mono e e3⟩
end
theorem Reps.length : ∀ {ds : List D} {vs : List V}, Reps K M ds vs → ds.length = vs.length
  | [], _, h => by simp only [Reps] at h; subst h; rfl
  | d :: ds, _, h => by
    simp only [Reps] at h
    obtain ⟨v, vs', rfl, _, e3⟩ := h
    simp [Reps.length e3]
theorem Reps.isEmpty {ds : List D} {vs : List V} (h : Reps K M ds vs) : vs.isEmpty = ds.isEmpty := by
  have := h.length
  cases ds <;> cases vs <;> simp_all
theorem Reps.get : ∀ {ds : List D} {vs : List V} {i : Nat} {d : D}, Reps K M ds vs → ds[i]? = some d → ∃ v, vs[i]? = some v ∧ Rep K M d v
  | [], _, _, _, _, h => by simp at h
  | d :: ds, _, i, d', h, hi => by
    simp only [Reps] at h
    obtain ⟨v, vs', rfl, e2, e3⟩ := h
    cases i with
    | zero => simp at hi; subst hi; exact ⟨v, rfl, e2⟩
    | succ i => simp at hi ⊢; exact Reps.get e3 hi
theorem Reps.append : ∀ {ds es : List D} {vs ws : List V}, Reps K M ds vs → Reps K M es ws → Reps K M (ds ++ es) (vs ++ ws)
  | [], _, _, _, h, h2 => by simp only [Reps] at h; subst h; exact h2
  | d :: ds, es, _, ws, h, h2 => by
    simp only [Reps] at h
    obtain ⟨v, vs', rfl, e2, e3⟩ := h
    simp only [List.cons_append, Reps]
    exact ⟨v, vs' ++ ws, rfl, e2, Reps.append e3 h2⟩
theorem Reps.one {d : D} {v : V} (h : Rep K M d v) : Reps K M [d] [v] := by
  simp only [Reps]
  exact ⟨v, [], rfl, h, rfl⟩
theorem Reps.set : ∀ {ds : List D} {vs : List V} {d : D} {v : V} (i : Nat), Rep K M d v → Reps K M ds vs → Reps K M (ds.set i d) (vs.set i v)
  | [], _, _, _, _, _, h => by simp only [Reps] at h; subst h; simp [Reps]
  | d :: ds, _, d', v', i, hr, h => by
    simp only [Reps] at h
    obtain ⟨v, vs', rfl, e2, e3⟩ := h
    cases i with
    | zero => simp only [List.set, Reps]; exact ⟨v', vs', rfl, hr, e3⟩
    | succ i => simp only [List.set, Reps]; exact ⟨v, vs'.set i v', rfl, e2, Reps.set i hr e3⟩
theorem Reps.take : ∀ {ds : List D} {vs : List V} (i : Nat), Reps K M ds vs → Reps K M (ds.take i) (vs.take i)
  | _, _, 0, _ => by simp [Reps]
  | [], _, i + 1, h => by simp only [Reps] at h; subst h; simp [Reps]
  | d :: ds, _, i + 1, h => by
    simp only [Reps] at h
    obtain ⟨v, vs', rfl, e2, e3⟩ := h
    simp only [List.take_succ_cons, Reps]
    exact ⟨v, _, rfl, e2, Reps.take i e3⟩
theorem Reps.drop : ∀ {ds : List D} {vs : List V} (i : Nat), Reps K M ds vs → Reps K M (ds.drop i) (vs.drop i)
  | _, _, 0, h => by simpa using h
  | [], _, i + 1, h => by simp only [Reps] at h; subst h; simp [Reps]
  | d :: ds, _, i + 1, h => by
    simp only [Reps] at h
    obtain ⟨v, vs', rfl, e2, e3⟩ := h
    simp only [List.drop_succ_cons]
    exact Reps.drop i e3
theorem Reps.eraseIdx : ∀ {ds : List D} {vs : List V} (i : Nat), Reps K M ds vs → Reps K M (ds.eraseIdx i) (vs.eraseIdx i)
  | [], _, _, h => by simp only [Reps] at h; subst h; simp [Reps]
  | d :: ds, _, i, h => by
    simp only [Reps] at h
    obtain ⟨v, vs', rfl, e2, e3⟩ := h
    cases i with
    | zero => simpa using e3
    | succ i => simp only [List.eraseIdx_cons_succ, Reps]; exact ⟨v, _, rfl, e2, Reps.eraseIdx i e3⟩
theorem Reps.ints : ∀ {ns : List Int} {vs : List V}, Reps K M (ns.map D.int) vs → vs = ns.map V.int
  | [], _, h => by simpa [Reps] using h
  | n :: ns, _, h => by
    simp only [List.map_cons, Reps] at h
    obtain ⟨v, vs', rfl, e2, e3⟩ := h
    simp only [Rep] at e2
    rw [e2, Reps.ints e3]
    rfl
theorem Reps.of_ints : ∀ {ns : List Int}, Reps K M (ns.map D.int) (ns.map V.int)
  | [] => by simp [Reps]
  | n :: ns => by
    simp only [List.map_cons, Reps]
    exact ⟨_, _, rfl, by simp [Rep], Reps.of_ints⟩
end
/-! ### slots, results -/
/-- a list (of one's own, or lent), a dict of one's own -/
inductive Kd where
  | l (b : Bool) | dict (ks : List Int)
  deriving Inhabited
inductive Sl where
  | val (d : D) | lv (fz : Kd) (ds : List D) | fn (k : Nat) (ds : List D)
  deriving Inhabited
abbrev Nv := List (Option Sl)
inductive R where
  | val (d : D) | own (ds : List D)
  deriving Inhabited
/-- an outcome: a value and the slots; an exception; nothing is known -/
inductive Rs (α : Type) where
  | ok (a : α) (e : Nv) | exc (c : Nat) (as : List D) (e : Nv) | stuck
def Rs.bind {α β : Type} : Rs α → (α → Nv → Rs β) → Rs β
  | .ok a e, f => f a e
  | .exc c as e, _ => .exc c as e
  | .stuck, _ => .stuck
/-- no exception may leave -/
def Rs.nox {α : Type} : Rs α → Rs α
  | .ok a e => .ok a e
  | _ => .stuck
def R.frz : R → D
  | .val d => d
  | .own ds => .lst ds
def Rs.of {α : Type} : Option α → Nv → Rs α
  | some a, e => .ok a e
  | none, _ => .stuck
/-- a lambda of the program -/
structure Lam where
  params : Arguments
  body : Expr
  scope : Scope
  qual : Str
  caps : List Str
/-- the tables of code objects, the lambdas -/
class Tb where
  tabs : List (Addr × Str)
  lam : Nat → Option Lam
variable [Tb]
def TbA (a : Addr) : Prop := ∃ p ∈ Tb.tabs, p.1 = a
/-- the own (mutable) addresses; the tables are so too -/
def Own (σ : L2.St) (e : Nv) (a : Addr) : Prop := (∃ (i : Nat) (fz : Kd) (ds : List D), e[i]? = some (some (.lv fz ds)) ∧ σ[i]? = some (some (.ref a))) ∨ TbA a
def LoR (K : PySem.W.Frag) (M : Hp) : Kd → List D → HO → Prop
  | .l _, ds, o => ∃ vs, o = .lst vs ∧ Reps K M ds vs
  | .dict ks, ds, o => ∃ vs, o = .dK (zk ks vs) ∧ ks.length = ds.length ∧ Reps K M ds vs
theorem LoR.mono {K : PySem.W.Frag} {M M' : Hp} (e : Same M M') : ∀ {f : Kd} {ds : List D} {o : HO}, LoR K M f ds o → LoR K M' f ds o
  | .l _, _, _, ⟨vs, h, r⟩ => ⟨vs, h, Reps.mono e r⟩
  | .dict _, _, _, ⟨vs, h, l, r⟩ => ⟨vs, h, l, Reps.mono e r⟩
/-- what a lambda captured -/
def CloR (M : Hp) (L : Lam) (clo : List (Str × Addr)) (vs : List V) : Prop := L.caps.length = vs.length ∧ (∀ y ∈ L.scope.names, y.2 = .free → y.1 ∈ L.caps) ∧ (∀ y c, clo.lookup y = some c → y ∈ L.caps) ∧ (∀ x y c, clo.lookup x = some c → clo.lookup y = some c → x = y) ∧
  ∀ (j : Nat) (y : Str) (v : V), L.caps[j]? = some y → vs[j]? = some v → ∃ (c : Addr) (ob : Obj) (u : Value), clo.lookup y = some c ∧ M c = some (.frz ob (.ext fun _ => True)) ∧ ob.data = .cell (some u) ∧ RelV v u
/-- a lambda's function object, what it captured -/
def FnR (K : PySem.W.Frag) (M : Hp) (k : Nat) (ds : List D) (v : V) : Prop := ∃ (L : Lam) (f c' : Addr) (pm ctv : Value) (clo : List (Str × Addr)) (vs : List V), Tb.lam k = some L ∧ v = .ref f ∧
  M f = some (.frz (PySem.W.kla_obj "<lambda>" L.qual L.params L.body L.scope clo pm c' ctv) (.ext fun _ => True)) ∧ M c' = some (LamX.CodeO c' L.qual) ∧ CloR M L clo vs ∧ Reps K M ds vs
theorem CloR.mono {M M' : Hp} (e : Same M M') {L : Lam} {clo : List (Str × Addr)} {vs : List V} (h : CloR M L clo vs) : CloR M' L clo vs := by
  obtain ⟨h1, h2, h3, h4, h5⟩ := h
  refine ⟨h1, h2, h3, h4, fun j y v a b => ?_⟩
  obtain ⟨c, ob, u, e1, e2, e3⟩ := h5 j y v a b
  exact ⟨c, ob, u, e1, e _ _ e2, e3⟩
theorem FnR.mono {K : PySem.W.Frag} {M M' : Hp} (e : Same M M') {k : Nat} {ds : List D} {v : V} (h : FnR K M k ds v) : FnR K M' k ds v := by
  obtain ⟨L, f, c', pm, ctv, clo, vs, h1, h2, h3, h4, h5, h6⟩ := h
  exact ⟨L, f, c', pm, ctv, clo, vs, h1, h2, e _ _ h3, e _ _ h4, h5.mono e, Reps.mono e h6⟩
def SlR (K : PySem.W.Frag) (M H : Hp) : Sl → V → Prop
  | .val d, v => Rep K M d v
  | .fn k ds, v => FnR K M k ds v
  | .lv f ds, v => ∃ a o, v = .ref a ∧ M a = none ∧ H a = some o ∧ LoR K M f ds o
/-- the table at P: each code object that it tells is known, and bears the name q -/
def TabM (M H : Hp) (P : Addr) (q : Str) : Prop := ∃ ps : Array Value, H P = some (.tbl ps) ∧ TriplesOk ps.toList ∧ ∀ (pos : Pos) (cv : Value), codeAmong pos ps.toList = some cv → ∃ c, cv = .ref c ∧ M c = some (LamX.CodeO c q)
theorem TabM.ext {M M' H H' : Hp} {P : Addr} {q : Str} (t : TabM M H P q) (mm : Same M M') (hh : ∀ ps, H P = some (.tbl ps) → H' P = some (.tbl ps)) : TabM M' H' P q := by
  obtain ⟨ps, h1, h2, h3⟩ := t
  refine ⟨ps, hh _ h1, h2, fun pos cv hc => ?_⟩
  obtain ⟨c, e1, e2⟩ := h3 pos cv hc
  exact ⟨c, e1, mm _ _ e2⟩
theorem TabM.nil {M H : Hp} {P : Addr} {q : Str} (h : H P = some (.tbl #[])) : TabM M H P q := ⟨#[], h, True.intro, fun pos cv hc => by
  have z : codeAmong pos [] = some cv := hc
  simp [codeAmong] at z⟩
structure StR (K : PySem.W.Frag) (M H : Hp) (σ : L2.St) (e : Nv) : Prop where
  ext : Same M H
  len : e.length = σ.length
  get : ∀ (i : Nat) (s : Sl), e[i]? = some (some s) → ∃ v, σ[i]? = some (some v) ∧ SlR K M H s v
  apart : ∀ (i j : Nat) (f g : Kd) (xs ys : List D) (v : V), e[i]? = some (some (.lv f xs)) → e[j]? = some (some (.lv g ys)) → σ[i]? = some (some v) → σ[j]? = some (some v) → i = j
  tb : ∀ p ∈ Tb.tabs, M p.1 = none ∧ TabM M H p.1 p.2
structure Step (M H : Hp) (O : Addr → Prop) (M' H' : Hp) (O' : Addr → Prop) : Prop where
  mm : Same M M'
  keep : ∀ a o, H a = some o → ¬ O a → H' a = some o
  own : ∀ a, O' a → O a ∨ H a = none
  dom : ∀ a, H' a = none → H a = none
  mnew : ∀ a o, M' a = some o → M a = some o ∨ O a ∨ H a = none
section
variable {K : PySem.W.Frag} {M H M1 H1 M2 H2 : Hp} {O O1 O2 O1' : Addr → Prop} {σ : L2.St} {nv : Nv}
theorem Step.refl (M H : Hp) (O : Addr → Prop) : Step M H O M H O := ⟨Same.refl _, fun _ _ h _ => h, fun _ h => .inl h, fun _ h => h, fun _ _ h => .inl h⟩
theorem Step.trans (a : Step M H O M1 H1 O1) (b : Step M1 H1 O1 M2 H2 O2) : Step M H O M2 H2 O2 :=
  ⟨a.mm.trans b.mm, fun x o h n => b.keep x o (a.keep x o h n) (fun z => (a.own x z).elim n fun z => by rw [h] at z; cases z), fun x h => (b.own x h).elim (fun z => a.own x z) fun z => .inr (a.dom x z), fun x h => a.dom x (b.dom x h),
    fun x o h => (b.mnew x o h).elim (fun z => a.mnew x o z) fun z => .inr (z.elim (fun z => a.own x z) fun z => .inr (a.dom x z))⟩
theorem Step.less (a : Step M H O M1 H1 O1) (h : ∀ x, O1' x → O1 x) : Step M H O M1 H1 O1' := ⟨a.mm, a.keep, fun x z => a.own x (h x z), a.dom, a.mnew⟩
/-- a result: data, or a new list that nobody else holds -/
def RR (K : PySem.W.Frag) (M H : Hp) (O : Addr → Prop) : R → V → Prop
  | .val d, v => Rep K M d v
  | .own ds, v => ∃ a vs, v = .ref a ∧ H a = some (.lst vs) ∧ M a = none ∧ ¬ O a ∧ Reps K M ds vs
def ResO : R → V → Addr → Prop
  | .val _, _, _ => False
  | .own _, v, a => v = .ref a
theorem LoR.ntbl {f : Kd} {ds : List D} {o : HO} (h : LoR K M f ds o) {ps : Array Value} : o ≠ .tbl ps := by
  cases f with
  | l b => obtain ⟨vs, rfl, _⟩ := h; exact fun z => nomatch z
  | dict ks => obtain ⟨vs, rfl, _⟩ := h; exact fun z => nomatch z
theorem StR.notTab (st : StR K M H σ nv) {a : Addr} {o : HO} (h : H a = some o) (n : ∀ ps, o ≠ .tbl ps) : ¬ TbA a := by
  rintro ⟨p, hp, rfl⟩
  obtain ⟨_, ps, h2, _⟩ := st.tb p hp
  rw [h2] at h
  cases h
  exact n _ rfl
/-- a thing that is no table and no code object changes -/
theorem tabS_upd {P : Addr} {q : Str} (h : TabM M H P q) {a : Addr} {o u : HO} (ha : H a = some o) (n1 : ∀ ps, o ≠ .tbl ps) (_n2 : ∀ φ, o ≠ .ext φ) : TabM M (upd H a u) P q :=
  h.ext (Same.refl _) fun ps h1 => by
    rw [upd_ne (fun z => by rw [z, ha] at h1; cases h1; exact n1 _ rfl)]
    exact h1
theorem LoR.next {f : Kd} {ds : List D} {o : HO} (h : LoR K M f ds o) {φ : Heap → Prop} : o ≠ .ext φ := by
  cases f with
  | l b => obtain ⟨vs, rfl, _⟩ := h; exact fun z => nomatch z
  | dict ks => obtain ⟨vs, rfl, _⟩ := h; exact fun z => nomatch z
theorem StR.own_at (st : StR K M H σ nv) {a : Addr} (h : Own σ nv a) : M a = none ∧ ∃ o, H a = some o := by
  rcases h with ⟨i, fz, ds, h1, h2⟩ | ⟨p, hp, rfl⟩
  case inr =>
    obtain ⟨h1, ps, h2, _⟩ := st.tb p hp
    exact ⟨h1, _, h2⟩
  obtain ⟨v, e1, e2⟩ := st.get i _ h1
  rw [h2] at e1
  obtain ⟨a', vs, e3, e4, e5, _⟩ := e2
  have : V.ref a = v := by injection e1 with e1; injection e1
  rw [← this] at e3
  injection e3 with e3
  subst e3
  exact ⟨e4, vs, e5⟩
/-- more heap: nothing own is changed, nothing own is known -/
theorem StR.grow (st : StR K M H σ nv) (mm : Same M M1) (hh : ∀ a o, H a = some o → H1 a = some o) (ext : Same M1 H1) (mn : ∀ a, Own σ nv a → M1 a = none) : StR K M1 H1 σ nv := by
  refine ⟨ext, st.len, fun i s h => ?_, st.apart, fun p hp => ⟨mn _ (.inr ⟨p, hp, rfl⟩), (st.tb p hp).2.ext mm fun _ h => hh _ _ h⟩⟩
  obtain ⟨v, e1, e2⟩ := st.get i s h
  refine ⟨v, e1, ?_⟩
  cases s with
  | val d => exact Rep.mono mm e2
  | fn k ds => exact FnR.mono mm e2
  | lv f ds =>
    obtain ⟨a, vs, rfl, e3, e4, e5⟩ := e2
    exact ⟨a, vs, rfl, mn a (.inl ⟨i, f, ds, h, e1⟩), hh _ _ e4, LoR.mono mm e5⟩
theorem same_upd {H : Hp} {p : Addr} {o : HO} (h : H p = none) : Same H (upd H p o) := fun b x e => by
  rw [upd_ne (ne_of_none e h)]
  exact e
/-- a new list is known from now on -/
theorem freeze {r : R} {v : V} (st : StR K M1 H1 σ nv) (rr : RR K M1 H1 (Own σ nv) r v) (s : Step M H O M1 H1 (fun a => Own σ nv a ∨ ResO r v a)) :
    ∃ M2, StR K M2 H1 σ nv ∧ Rep K M2 r.frz v ∧ Step M H O M2 H1 (Own σ nv) ∧ Same M1 M2 := by
  cases r with
  | val d => exact ⟨M1, st, rr, s.less fun x h => .inl h, Same.refl _⟩
  | own ds =>
    obtain ⟨a, vs, rfl, e1, e2, e3, e4⟩ := rr
    have sm : Same M1 (upd M1 a (.lst vs)) := same_upd e2
    refine ⟨upd M1 a (.lst vs), st.grow sm (fun _ _ h => h) (fun b o h => ?_) (fun b hb => ?_), ?_, ⟨s.mm.trans sm, s.keep, fun x h => s.own x (.inl h), s.dom, fun x o h => ?_⟩, sm⟩
    · by_cases hb : b = a
      · subst hb; rw [upd_same] at h; cases h; exact e1
      · rw [upd_ne hb] at h; exact st.ext _ _ h
    · have : b ≠ a := fun z => e3 (z ▸ hb)
      rw [upd_ne this]
      exact (st.own_at hb).1
    · simp only [R.frz, Rep]
      exact ⟨a, vs, rfl, upd_same, Reps.mono sm e4⟩
    · by_cases hb : x = a
      · subst hb
        exact .inr (s.own x (.inr rfl))
      · rw [upd_ne hb] at h; exact s.mnew x o h
end
end G
namespace G
noncomputable section
open PySem PySem.Spec PyProof.Rows L2
/-! ### the language -/
inductive T where
  | nm (i : Nat) | two (a b : T) | three (a b c : T) | nms (is : List Nat)
  deriving Inhabited
inductive P1 where
  | neg | len | abs | int | tupl | list | truth | isN | notN | isi (t : Nat) | sum | sumT | any | all | minL | maxL | maxT | minT | revL | lenSet | srtSet | ntr | tupRev | rgRev | srtD | srtTup | lenSetT | srtK | cdx (kvs : List (Str × List Str))
  deriving DecidableEq, Inhabited
inductive P2 where
  | add | sub | mul | fdiv | mod | pow | eq | ne | lt | le | gt | ge | inn | nin | ix | max | min | divm | dix | leL
  deriving DecidableEq, Inhabited
inductive Pm where
  | count | lidx | sidx | join | tidx | tcount | xidx | dgt
  deriving DecidableEq, Inhabited
inductive Ik where
  | seq | rng | zip | enum | rev | sq
  deriving DecidableEq, Inhabited
inductive Mt where
  | app | ext | pop | popi | rem | ins | rvs
  deriving DecidableEq, Inhabited
inductive E where
  | var (i : Nat) | mov (i : Nat) | brw (i : Nat)
  | non | bl (b : Bool) | int (i : Int) | str (s : Str)
  | op1 (p : P1) (a : E) | op2 (p : P2) (a b : E) | mop (p : Pm) (a b : E)
  | tup (es : List E) | lst (es : List E)
  | and_ (a b : E) | or_ (a b : E) | not_ (a : E) | ife (c a b : E)
  | slc (a lo hi : E)
  | call (f sh : Nat) (es : List E)
  | comp (t : T) (k : Ik) (es : List E) (cs : List E) (elt : E) (own : List Nat)
  | compB (t : T) (i : Nat) (cs : List E) (elt : E) (own : List Nat)
  | comp2 (t : T) (k : Ik) (es : List E) (t2 : T) (k2 : Ik) (es2 : List E) (elt : E) (own own2 : List Nat)
  | mth (m : Mt) (i : Nat) (es : List E)
  | star (a : E) | tupS (es : List E)
  | conv (tu : Bool) (k : Ik) (es : List E)
  | capp (i : Nat) (ks : List Nat) (es : List E) | callL (f : Nat) (es : List E) (k : Nat) (caps : List Nat) (fs : List E)
  deriving Inhabited
abbrev SZ : Nat := 16777216
/-! dicts of ints -/
def dget : List Int → List D → Int → Option D
  | k0 :: ks, d :: ds, k => if k0 = k then some d else dget ks ds k
  | _, _, _ => none
def dpR {α : Type} : List Int → List α → Int → α → List α
  | k0 :: ks, x :: xs, k, y => (if k0 = k then y else x) :: dpR ks xs k y
  | _, xs, _, _ => xs
def dkey (ks : List Int) (k : Int) : List Int := if k ∈ ks then ks else ks ++ [k]
def dput {α : Type} (ks : List Int) (ds : List α) (k : Int) (d : α) : List α := if k ∈ ks then dpR ks ds k d else ds ++ [d]
def b62 (i : Int) : Bool := decide (-4611686018427387904 ≤ i) && decide (i < 4611686018427387904)
/-! ### primitives -/
def pAdd : D → D → Option R
  | .int a, .int b => some (.val (.int (a + b)))
  | .str a, .str b => if a.length + b.length ≤ SZ then some (.val (.str (a ++ b))) else none
  | .tup a, .tup b => if a.length + b.length ≤ SZ then some (.val (.tup (a ++ b))) else none
  | .lst a, .lst b => if a.length + b.length ≤ SZ then some (.own (a ++ b)) else none
  | _, _ => none
def pSub : D → D → Option R
  | .int a, .int b => some (.val (.int (a - b)))
  | _, _ => none
def pMul : D → D → Option R
  | .int a, .int b => if (-(2 ^ 64) < a ∧ a < 2 ^ 64) ∨ (-(2 ^ 64) < b ∧ b < 2 ^ 64) then some (.val (.int (a * b))) else none
  | .lst a, .int k => if -(2 ^ 63) ≤ k ∧ k < 2 ^ 63 ∧ a.length * k.toNat ≤ SZ then some (.own (List.replicate k.toNat a).flatten) else none
  | .str z, .int k => if z.length ≤ 16 ∧ -(2 ^ 63) ≤ k ∧ k ≤ 1000000 then some (.val (.str (Txt.mul z k))) else none
  | _, _ => none
def pFdiv : D → D → Option R
  | .int a, .int b => if 0 < b ∧ b < 1073741824 then some (.val (.int (a / b))) else none
  | _, _ => none
def pMod : D → D → Option R
  | .int a, .int b => if 0 < b then some (.val (.int (a % b))) else none
  | _, _ => none
def pPow : D → D → Option R
  | .int a, .int b => if 0 ≤ b ∧ b ≤ 1000000 ∧ a.natAbs < 2 ^ 64 then some (.val (.int (a ^ b.toNat))) else none
  | _, _ => none
def intsD : List D → Option (List Int)
  | [] => some []
  | .int i :: ds => (intsD ds).map (i :: ·)
  | _ :: _ => none
/-- order of lists of numbers -/
def lexO (f : Int → Int → Bool) : List Int → List Int → Bool
  | [], [] => f 0 0
  | [], _ :: _ => f 0 1
  | _ :: _, [] => f 1 0
  | x :: xs, y :: ys => if x = y then lexO f xs ys else f x y
def pCmp (f : Int → Int → Bool) : D → D → Option R
  | .int a, .int b => some (.val (.bl (f a b)))
  | .tup xs, .tup ys => (intsD xs).bind fun ns => (intsD ys).map fun ms => .val (.bl (lexO f ns ms))
  | _, _ => none
/-- list(..) <= list(..) -/
def pLeL : D → D → Option R
  | .lst xs, .lst ys => (intsD xs).bind fun ns => (intsD ys).map fun ms => .val (.bl (lexO (fun a b => decide (a ≤ b)) ns ms))
  | _, _ => none
/-- == of flat things -/
def deq : D → D → Option Bool
  | .non, .non => some true | .non, .int _ => some false | .int _, .non => some false | .non, .bl _ => some false | .bl _, .non => some false
  | .non, .str _ => some false | .str _, .non => some false
  | .int a, .int b => some (decide (a = b)) | .bl a, .bl b => some (decide (a = b)) | .str a, .str b => some (decide (a = b))
  | .int _, .str _ => some false | .str _, .int _ => some false | .bl _, .str _ => some false | .str _, .bl _ => some false
  | _, _ => none
mutual
/-- as the library's data -/
def toPy : D → Option PyData
  | .non => some .none
  | .bl b => some (.bool b)
  | .int i => some (.int i)
  | .str z => some (.str z)
  | .tup xs => (toPys xs).map .tuple
  | .lst xs => (toPys xs).map .list
  | .scr _ => none
  | .dct _ _ => none
def toPys : List D → Option (List PyData)
  | [] => some []
  | d :: ds => match toPy d, toPys ds with
    | some x, some xs => some (x :: xs)
    | _, _ => none
end
/-- == of deep things -/
def deqD (a b : D) : Option Bool := match toPy a, toPy b with
  | some x, some y => if x.depth ≤ 64 then some (PyData.eqv x y) else none
  | _, _ => none
def eqD (a b : D) : Option Bool := match deq a b with
  | some k => some k
  | none => deqD a b
def pIx : D → D → Option R
  | .tup xs, .int i => (atI xs i).map .val
  | .lst xs, .int i => (atI xs i).map .val
  | .str z, .int i => if z.length ≤ SZ then (atI z.cps.toList i).map fun c => .val (.str ⟨#[c]⟩) else none
  | _, _ => none
def pMax : D → D → Option R
  | .int a, .int b => some (.val (.int (if b > a then b else a)))
  | _, _ => none
def pMin : D → D → Option R
  | .int a, .int b => some (.val (.int (if b < a then b else a)))
  | _, _ => none
def strsD : List D → Option (List Str)
  | [] => some []
  | .str i :: ds => (strsD ds).map (i :: ·)
  | _ :: _ => none
def blsD : List D → Option (List Bool)
  | [] => some []
  | .bl i :: ds => (blsD ds).map (i :: ·)
  | _ :: _ => none
/-- flat things: no parts -/
def flatD : D → Bool
  | .non => true | .bl _ => true | .int _ => true | .str _ => true | _ => false
/-- == of flat things -/
def eqF : D → D → Bool
  | .non, .non => true
  | .bl a, .bl b => a == b
  | .bl a, .int b => (if a then 1 else 0) == b
  | .int a, .bl b => a == (if b then 1 else 0)
  | .int a, .int b => a == b
  | .str a, .str b => a == b
  | _, _ => false
def pCount : D → D → Option R
  | .lst xs, y => if flatD y && xs.all flatD then some (.val (.int (xs.countP fun z => eqF z y : Nat))) else none
  | _, _ => none
/-- the first place of a flat thing -/
def pTidx : D → D → Option R
  | .tup xs, y => if flatD y && xs.all flatD then (xs.findIdx? fun z => eqF z y).map fun k => .val (.int (k : Nat)) else none
  | _, _ => none
/-- the first place in a list -/
def pXidx : D → D → Option R
  | .lst xs, y => if flatD y && xs.all flatD then (xs.findIdx? fun z => eqF z y).map fun k => .val (.int (k : Nat)) else none
  | _, _ => none
def pTcount : D → D → Option R
  | .tup xs, y => if flatD y && xs.all flatD then some (.val (.int (xs.countP fun z => eqF z y : Nat))) else none
  | _, _ => none
def pLidx : D → D → Option R
  | .tup xs, .int y => (intsD xs).bind fun ns => if y ∈ ns then some (.val (.int (ns.idxOf y : Nat))) else none
  | _, _ => none
/-- in, of deep things -/
def pInD (neg : Bool) (x : D) (xs : List D) : Option R := match toPy x, toPys xs with
  | some d, some ds => if d.depth ≤ 63 then some (.val (.bl (if neg then !(ds.any fun z => PyData.eqv z d) else ds.any fun z => PyData.eqv z d))) else none
  | _, _ => none
def pIn (neg : Bool) : D → D → Option R
  | x, .lst xs => if flatD x && xs.all flatD then some (.val (.bl (if neg then !(xs.any fun z => eqF z x) else xs.any fun z => eqF z x))) else pInD neg x xs
  | x, .tup xs => if flatD x && xs.all flatD then some (.val (.bl (if neg then !(xs.any fun z => eqF z x) else xs.any fun z => eqF z x))) else pInD neg x xs
  | _, _ => none
def pIndex : D → D → Option R
  | .str a, .str b => (Txt.index0 a b).map fun k => .val (.int (k : Nat))
  | _, _ => none
def pJoin : D → D → Option R
  | .str a, .lst xs => match strsD xs with
    | some ys => if (ys.map (·.length)).sum + ys.length * a.length ≤ SZ then some (.val (.str (Txt.join a ys))) else none
    | none => none
  | _, _ => none
def pDivm : D → D → Option R
  | .int a, .int b => if 0 < b ∧ b < 1073741824 then some (.val (.tup [.int (a / b), .int (a % b)])) else none
  | _, _ => none
/-- += and -= of numbers -/
def pAug : P2 → D → D → Option R
  | .add, .int a, .int b => some (.val (.int (a + b)))
  | .sub, .int a, .int b => some (.val (.int (a - b)))
  | _, _, _ => none
def p2 : P2 → D → D → Option R
  | .add => pAdd | .sub => pSub | .mul => pMul | .fdiv => pFdiv | .mod => pMod | .pow => pPow
  | .eq => fun a b => (eqD a b).map fun k => .val (.bl k)
  | .ne => fun a b => (eqD a b).map fun k => .val (.bl (!k))
  | .lt => pCmp fun a b => decide (a < b) | .le => pCmp fun a b => decide (a ≤ b) | .gt => pCmp fun a b => decide (b < a) | .ge => pCmp fun a b => decide (b ≤ a)
  | .ix => pIx | .max => pMax | .min => pMin
  | .inn => pIn false | .nin => pIn true
  | .divm => pDivm
  | .dix => fun | .dct ks ds, .int k => (dget ks ds k).map .val | _, _ => none
  | .leL => pLeL
def pm : Pm → D → D → Option R
  | .count => pCount | .lidx => pLidx | .sidx => pIndex | .join => pJoin | .tidx => pTidx | .tcount => pTcount | .xidx => pXidx
  | .dgt => fun | .dct ks ds, .int k => some (.val ((dget ks ds k).getD .non)) | _, _ => none
/-- of what kind the receiver is -/
def recv : Pm → D → Bool
  | .count, .lst _ => true | .lidx, .tup _ => true | .sidx, .str _ => true | .join, .str _ => true | .tidx, .tup _ => true | .tcount, .tup _ => true | .xidx, .lst _ => true | .dgt, .dct _ _ => true
  | _, _ => false
def pLen : D → Option R
  | .tup xs => some (.val (.int xs.length))
  | .lst xs => some (.val (.int xs.length))
  | .str z => if z.length ≤ SZ then some (.val (.int z.length)) else none
  | .scr ns => some (.val (.int ns.length))
  | _ => none
/-- the signs of a text, one by one -/
def chD (z : Str) : List D := z.cps.toList.map fun c => D.str ⟨#[c]⟩
def pList : D → Option R
  | .str z => if z.length ≤ SZ then some (.own (chD z)) else none
  | .tup xs => some (.own xs)
  | .lst xs => some (.own xs)
  | .scr ns => some (.own (ns.map .int))
  | _ => none
def pTupl : D → Option R
  | .tup xs => some (.val (.tup xs))
  | .lst xs => some (.val (.tup xs))
  | _ => none
/-- isinstance: 0 tuple, 1 bool, 2 str, 3 int -/
def pIsi : Nat → D → Option R
  | 0, .tup _ => some (.val (.bl true)) | 0, .lst _ => some (.val (.bl false)) | 0, .non => some (.val (.bl false)) | 0, .bl _ => some (.val (.bl false)) | 0, .int _ => some (.val (.bl false)) | 0, .str _ => some (.val (.bl false))
  | 1, .bl _ => some (.val (.bl true)) | 1, .tup _ => some (.val (.bl false)) | 1, .lst _ => some (.val (.bl false)) | 1, .non => some (.val (.bl false)) | 1, .int _ => some (.val (.bl false)) | 1, .str _ => some (.val (.bl false))
  | 2, .str _ => some (.val (.bl true)) | 2, .tup _ => some (.val (.bl false)) | 2, .lst _ => some (.val (.bl false)) | 2, .non => some (.val (.bl false)) | 2, .int _ => some (.val (.bl false)) | 2, .bl _ => some (.val (.bl false))
  | 3, .int _ => some (.val (.bl true)) | 3, .bl _ => some (.val (.bl true)) | 3, .tup _ => some (.val (.bl false)) | 3, .lst _ => some (.val (.bl false)) | 3, .non => some (.val (.bl false)) | 3, .str _ => some (.val (.bl false))
  | _, _ => none
/-- the first of equal ones alone -/
def ddI (ns : List Int) : List Int := ns.foldl (fun acc k => if acc.any (· == k) then acc else acc ++ [k]) []
/-- ascending, each once -/
def insI (k : Int) : List Int → List Int
  | [] => [k]
  | x :: xs => if k < x then k :: x :: xs else if k = x then x :: xs else x :: insI k xs
def downI (ns : List Int) : List Int := ns.mergeSort fun a b => decide (b ≤ a)
def sortI (ns : List Int) : List Int := ns.foldr insI []
/-- not x, by its truth -/
def pNtr : D → Option R
  | .non => some (.val (.bl true)) | .bl b => some (.val (.bl !b)) | .int i => some (.val (.bl !(i != 0)))
  | .tup xs => some (.val (.bl !!xs.isEmpty)) | .lst xs => some (.val (.bl !!xs.isEmpty)) | _ => none
/-- rows of numbers -/
def rowsD : List D → Option (List (List Int))
  | [] => some []
  | .tup xs :: ds => (intsD xs).bind fun ns => (rowsD ds).map (ns :: ·)
  | _ :: _ => none
def rowT (ns : List Int) : D := .tup (ns.map .int)
def sortL (nss : List (List Int)) : List (List Int) := nss.mergeSort fun a b => decide (a ≤ b)
/-- no row twice -/
def ddL : List (List Int) → List (List Int)
  | [] => []
  | x :: xs => if x ∈ xs then ddL xs else x :: ddL xs
/-- keys with their items -/
def pairsK : List D → Option (List (D × List Int))
  | [] => some []
  | .tup [.tup xs, d] :: ds => (intsD xs).bind fun ns => (pairsK ds).map ((d, ns) :: ·)
  | _ :: _ => none
def leD (p q : D × List Int) : Bool := decide (p.2 ≤ q.2)
def p1 : P1 → D → Option R
  | .srtK => fun | .lst ys => (pairsK ys).bind fun ps => if ps.all (fun p => !p.2.isEmpty) then some (.own ((ps.mergeSort leD).map (·.1))) else none | _ => none
  | .srtTup => fun | .lst xs => (rowsD xs).bind fun nss => if nss.all (fun ns => !ns.isEmpty) then some (.own ((sortL nss).map rowT)) else none | _ => none
  | .lenSetT => fun | .tup xs => (rowsD xs).bind fun nss => if nss.length < 64 then some (.val (.int (ddL nss).length)) else none | _ => none
  | .ntr => pNtr
  | .srtD => fun | .lst xs => (intsD xs).map fun ns => .own ((downI ns).map .int) | _ => none
  | .rgRev => fun | .int n => if 0 ≤ n ∧ n ≤ 16777216 then some (.val (.tup ((List.range n.toNat).map fun (k : Nat) => .int ((n - 1) + (k : Int) * (-1))))) else none | _ => none
  | .tupRev => fun | .lst xs => some (.val (.tup xs.reverse)) | .tup xs => some (.val (.tup xs.reverse)) | _ => none
  | .cdx kvs => fun | .str z => (kvs.lookup z).map fun ws => .val (.tup (ws.map .str)) | _ => none
  | .srtSet => fun | .tup xs => (intsD xs).bind fun ns => if ns.length < 64 then some (.own ((sortI ns).map .int)) else none | .lst xs => (intsD xs).bind fun ns => if ns.length < 64 then some (.own ((sortI ns).map .int)) else none | _ => none
  | .revL => fun | .lst xs => some (.own xs.reverse) | _ => none
  | .lenSet => fun | .lst xs => (intsD xs).bind fun ns => if ns.length ≤ 4000 then some (.val (.int (ddI ns).length)) else none | _ => none
  | .neg => fun | .int i => some (.val (.int (-i))) | _ => none
  | .len => pLen
  | .abs => fun | .int i => some (.val (.int (if i < 0 then -i else i))) | _ => none
  | .int => fun | .int i => some (.val (.int i)) | .bl b => some (.val (.int (if b then 1 else 0))) | .str z => if z.length ≤ 640 then (PySem.intText? z).map fun n => .val (.int n) else none | _ => none
  | .tupl => pTupl | .list => pList
  | .truth => fun
    | .non => some (.val (.bl false)) | .bl b => some (.val (.bl b)) | .int i => some (.val (.bl (i != 0)))
    | .str z => if z.length ≤ SZ then some (.val (.bl ((z.length : Int) != 0))) else none
    | .tup xs => some (.val (.bl !xs.isEmpty)) | .lst xs => some (.val (.bl !xs.isEmpty)) | _ => none
  | .isN => fun | .non => some (.val (.bl true)) | _ => some (.val (.bl false))
  | .notN => fun | .non => some (.val (.bl false)) | _ => some (.val (.bl true))
  | .isi t => pIsi t
  | .sum => fun | .lst xs => (intsD xs).map fun ns => .val (.int ns.sum) | .tup xs => (intsD xs).map fun ns => .val (.int ns.sum) | _ => none
  | .sumT => fun _ => none
  | .minL => fun | .lst xs => (intsD xs).bind fun ns => ns.min?.map fun m => .val (.int m) | _ => none
  | .maxL => fun | .lst xs => (intsD xs).bind fun ns => ns.max?.map fun m => .val (.int m) | _ => none
  | .maxT => fun | .tup xs => (intsD xs).bind fun ns => ns.max?.map fun m => .val (.int m) | .lst xs => (intsD xs).bind fun ns => ns.max?.map fun m => .val (.int m) | _ => none
  | .minT => fun | .tup xs => (intsD xs).bind fun ns => ns.min?.map fun m => .val (.int m) | .lst xs => (intsD xs).bind fun ns => ns.min?.map fun m => .val (.int m) | _ => none
  | .any => fun | .lst xs => (blsD xs).map fun ns => .val (.bl (ns.any id)) | _ => none
  | .all => fun | .lst xs => (blsD xs).map fun ns => .val (.bl (ns.all id)) | _ => none
def cutD (xs : List D) (lo hi : Option Int) : List D := (xs.drop (HT.sIx xs.length 0 lo)).take (HT.sIx xs.length xs.length hi - HT.sIx xs.length 0 lo)
def part : E → D → Option (Option Int)
  | .non, _ => some none
  | _, .int i => some (some i)
  | _, _ => none
def pSlc (a : D) (lo hi : Option Int) : Option R := match a with
  | .tup xs => some (.val (.tup (cutD xs lo hi)))
  | .lst xs => some (.own (cutD xs lo hi))
  | .str z => if z.length ≤ SZ then some (.val (.str (cutS z lo hi))) else none
  | _ => none
/-! ### slots -/
def look (nv : Nv) : D ⊕ Nat → Option D
  | .inl d => some d
  | .inr i => match nv[i]? with
    | some (some (.val d)) => some d
    | some (some (.lv (.l _) ds)) => some (.lst ds)
    | some (some (.lv (.dict ks) ds)) => some (.dct ks ds)
    | _ => none
def rdVar (i : Nat) (nv : Nv) : Rs R := match nv[i]? with
  | some (some (.val d)) => .ok (.val d) nv
  | some (some (.lv (.l true) ds)) => .ok (.val (.lst ds)) (nv.set i (some (.val (.lst ds))))
  | some (some (.lv (.dict ks) ds)) => .ok (.val (.dct ks ds)) (nv.set i (some (.val (.dct ks ds))))
  | _ => .stuck
def mvVar (i : Nat) (nv : Nv) : Rs R := match nv[i]? with
  | some (some (.val d)) => .ok (.val d) nv
  | some (some (.lv (.l true) ds)) => .ok (.own ds) (nv.set i none)
  | some (some (.lv (.dict ks) ds)) => .ok (.val (.dct ks ds)) (nv.set i (some (.val (.dct ks ds))))
  | _ => .stuck
def opd (a : E) (nv : Nv) (ra : Rs R) : Rs (D ⊕ Nat) := match a with
  | .var i => match nv[i]? with
    | some (some _) => .ok (.inr i) nv
    | _ => .stuck
  | _ => ra.bind fun r nv1 => .ok (.inl r.frz) nv1
def wipeN (nv : Nv) : List Nat → Nv
  | [] => nv
  | v :: vs => (wipeN nv vs).set v none
/-- the slots own as they stood in old -/
def back (old nv : Nv) : List Nat → Nv
  | [] => nv
  | v :: vs => (back old nv vs).set v (old[v]?.join)
def R.slot : R → Sl
  | .val d => .val d
  | .own ds => .lv (.l true) ds
/-- a store to a slot; a borrowed one is not stored over -/
def stSlot (i : Nat) (s : Sl) (nv : Nv) : Rs Unit := match nv[i]? with
  | some (some (.lv (.l false) _)) => .stuck
  | some _ => .ok () (nv.set i (some s))
  | none => .stuck
/-- stores to names in turn -/
def asgNs : List Nat → List D → Nv → Rs Unit
  | [], [], nv => .ok () nv
  | i :: is, d :: ds, nv => (stSlot i (.val d) nv).bind fun _ nv1 => asgNs is ds nv1
  | _, _, _ => .stuck
def asgD : T → D → Nv → Rs Unit
  | .nm i, d, nv => stSlot i (.val d) nv
  | .two a b, .tup [x, y], nv => (asgD a x nv).bind fun _ nv1 => asgD b y nv1
  | .three a b c, .tup [x, y, z], nv => (asgD a x nv).bind fun _ nv1 => (asgD b y nv1).bind fun _ nv2 => asgD c z nv2
  | .nms is, .tup ds, nv => asgNs is ds nv
  | _, _, _ => .stuck
def asgR (t : T) (r : R) (nv : Nv) : Rs Unit := match t with
  | .nm i => stSlot i r.slot nv
  | t => asgD t r.frz nv
def lstOf : D → Option (List D)
  | .tup xs => some xs
  | .lst xs => some xs
  | .scr ns => some (ns.map .int)
  | .str z => if z.length ≤ SZ then some (z.cps.toList.map fun c => .str ⟨#[c]⟩) else none
  | _ => none
/-- true: a tuple -/
def seqOf : D → Option (Bool × List D)
  | .tup xs => some (true, xs)
  | .lst xs => some (false, xs)
  | .scr ns => some (false, ns.map .int)
  | _ => none
def items : Ik → List (D ⊕ Nat) → Option (List D)
  | .seq, [.inl d] => lstOf d
  | .rng, [.inl (.int n)] => if b62 n then some ((List.range n.toNat).map fun k => .int (k : Nat)) else none
  | .rng, [.inl (.int a), .inl (.int b)] => if b62 a && b62 b then some ((List.range (b - a).toNat).map fun (k : Nat) => .int (a + k)) else none
  | .rng, [.inl (.int a), .inl (.int b), .inl (.int c)] => if b62 a && b62 b && decide (c = -1) then some ((List.range (a - b).toNat).map fun (k : Nat) => .int (a - k)) else none
  | .zip, [.inl a, .inl b] => match seqOf a, seqOf b with
    | some (_, xs), some (_, ys) => some ((xs.zip ys).map fun p => .tup [p.1, p.2])
    | _, _ => none
  | .enum, [.inl a] => match seqOf a with
    | some (_, xs) => some ((xs.zipIdx).map fun p => .tup [.int (p.2 : Nat), p.1])
    | none => none
  | .sq, [.inl a] => (seqOf a).map (·.2)
  | .rev, [.inl a] => match seqOf a with
    | some (_, xs) => some xs.reverse
    | none => none
  | _, _ => none
open Classical in
/-- the slot i is as it was -/
noncomputable def stayB (i : Nat) (nv nv1 : Nv) (o : Option D) : Rs (Option D) := if nv1[i]? = nv[i]? then .ok o nv1 else .stuck
def compLoop (turn : D → Nv → Rs (Option D)) : List D → List D → Nv → Rs (List D)
  | [], acc, nv => .ok acc nv
  | d :: ds, acc, nv => (turn d nv).bind fun o nv1 => match o with
    | some y => if acc.length < SZ then compLoop turn ds (acc ++ [y]) nv1 else .stuck
    | none => compLoop turn ds acc nv1
def comp2Loop (turn : D → List D → Nv → Rs (List D)) : List D → List D → Nv → Rs (List D)
  | [], acc, nv => .ok acc nv
  | d :: ds, acc, nv => (turn d acc nv).bind fun acc nv1 => comp2Loop turn ds acc nv1
/-- a called def: its result and the slots of its parameters behind it -/
inductive Cr where
  | ok (r : R) (outs : List Sl) | exc (c : Nat) (as : List D) (outs : List Sl) | stuck
abbrev Fn := Nat → List Sl → Cr
/-- how the written arguments come to the parameters -/
abbrev Shape := List (Nat ⊕ D)
def slotsOf (nv : Nv) : List (D ⊕ Nat) → Option (List Sl)
  | [] => some []
  | .inl d :: r => (slotsOf nv r).map (.val d :: ·)
  | .inr i :: r => match nv[i]? with
    | some (some (.val d)) => (slotsOf nv r).map (.val d :: ·)
    | some (some (.lv (.l _) ds)) => (slotsOf nv r).map (.lv (.l false) ds :: ·)
    | some (some (.fn k ds)) => (slotsOf nv r).map (.fn k ds :: ·)
    | _ => none
def brws : List (D ⊕ Nat) → List Nat
  | [] => []
  | .inl _ :: r => brws r
  | .inr i :: r => i :: brws r
def putBack (nv : Nv) : List (D ⊕ Nat) → List Sl → Option Nv
  | [], _ => some nv
  | .inl _ :: r, _ :: ss => putBack nv r ss
  | .inr i :: r, s :: ss => match putBack nv r ss, nv[i]?, s with
    | some nv1, some (some (.lv (.l f) _)), .lv (.l _) ds => some (nv1.set i (some (.lv (.l f) ds)))
    | some nv1, some (some (.val _)), _ => some nv1
    | some nv1, some (some (.fn _ _)), _ => some nv1
    | _, _, _ => none
  | _ :: _, [] => none
def arrO : Shape → List (D ⊕ Nat) → Option (List (D ⊕ Nat))
  | [], _ => some []
  | .inl j :: r, os => match os[j]?, arrO r os with
    | some o, some r' => some (o :: r')
    | _, _ => none
  | .inr d :: r, os => (arrO r os).map (.inl d :: ·)
/-- the call itself -/
def callOn (Φ : Fn) (f : Nat) (sh : Shape) (os : List (D ⊕ Nat)) (nv1 : Nv) : Rs R := match arrO sh os with
  | none => .stuck
  | some os' => match slotsOf nv1 os' with
    | none => .stuck
    | some ss => if (brws os').Nodup then match Φ f ss with
      | .ok r outs => match putBack nv1 os' outs with
        | some nv2 => .ok r nv2
        | none => .stuck
      | .exc c as outs => match putBack nv1 os' outs with
        | some nv2 => .exc c as nv2
        | none => .stuck
      | .stuck => .stuck
      else .stuck
def mthD (m : Mt) (xs : List D) : List D → Option (D × List D)
  | args => match m, args with
    | .app, [y] => if xs.length < SZ then some (.non, xs ++ [y]) else none
    | .ext, [.lst ys] => if xs.length + ys.length ≤ SZ then some (.non, xs ++ ys) else none
    | .pop, [] => match xs[xs.length - 1]? with
      | some y => some (y, xs.dropLast)
      | none => none
    | .popi, [.int i] => if -(2 ^ 63) ≤ i ∧ i < 2 ^ 63 then match ixN xs.length i with
      | some k => match xs[k]? with
        | some y => some (y, xs.eraseIdx k)
        | none => none
      | none => none else none
    | .rvs, [] => some (.non, xs.reverse)
    | .ins, [.int i, y] => if xs.length < SZ ∧ 0 ≤ i ∧ i < 2 ^ 63 then some (.non, xs.take i.toNat ++ [y] ++ xs.drop i.toNat) else none
    | .rem, [.int k] => match intsD xs with
      | some ns => match ns.findIdx? fun n => decide (n = k) with
        | some j => some (.non, xs.eraseIdx j)
        | none => none
      | none => none
    | _, _ => none
def inls : List (D ⊕ Nat) → Option (List D)
  | [] => some []
  | .inl d :: r => (inls r).map (d :: ·)
  | .inr _ :: _ => none
def argStep (e : E) (nv : Nv) (re : Rs R) (rest : Nv → Rs (List (D ⊕ Nat))) : Rs (List (D ⊕ Nat)) := match e with
  | .brw i => match nv[i]? with
    | some (some _) => (rest nv).bind fun os nv1 => .ok (.inr i :: os) nv1
    | _ => .stuck
  | _ => re.bind fun r nv1 => (rest nv1).bind fun os nv2 => .ok (.inl r.frz :: os) nv2
/-- an element of a display; a starred one stands for its items -/
def splice : E → D → Option (List D)
  | .star _, .tup ds => some ds
  | .star _, .lst ds => some ds
  | .star _, _ => none
  | _, d => some [d]
def tsStep (e : E) (re : Rs R) (rest : Nv → Rs (List D)) : Rs (List D) := re.bind fun r nv1 => match splice e r.frz with
  | none => .stuck
  | some ds => (rest nv1).bind fun ds2 nv2 => .ok (ds ++ ds2) nv2
/-- a method that changes the list of slot i -/
def mthOn (m : Mt) (i : Nat) (nv : Nv) (re : Rs (List (D ⊕ Nat))) : Rs R := match nv[i]? with
  | some (some (.lv (.l _) _)) => re.bind fun os nv1 => match inls os, nv1[i]? with
    | some ds, some (some (.lv (.l f) xs)) => match mthD m xs ds with
      | some (y, ys) => .ok (.val y) (nv1.set i (some (.lv (.l f) ys)))
      | none => .stuck
    | _, _ => .stuck
  | _ => .stuck
/-- list(..), tuple(..) of what is walked -/
def convOn (tu : Bool) (k : Ik) (os : List (D ⊕ Nat)) (nv : Nv) : Rs R := match items k os with
  | none => .stuck
  | some xs => if xs.length ≤ SZ then .ok (if tu = true then .val (.tup xs) else .own xs) nv else .stuck
/-- what a lambda captures -/
def capsD (nv : Nv) : List Nat → Option (List D)
  | [] => some []
  | i :: is => match nv[i]? with
    | some (some (.val d)) => (capsD nv is).map (d :: ·)
    | _ => none
/-- a lambda's body, run on its arguments and on what it captured -/
def cappOn (Φ : Fn) (k : Nat) (ds : List D) (nv : Nv) : Rs R := match Φ k (ds.map .val) with
  | .ok r _ => .ok r nv
  | _ => .stuck
/-- a call with a lambda among its arguments -/
def callLOn (Φ : Fn) (f k : Nat) (as bs cs : Option (List D)) (nv : Nv) : Rs R := match as, bs, cs with
  | some ds, some ds2, some cs => match Φ f (ds.map .val ++ .fn k cs :: ds2.map .val) with
    | .ok r _ => .ok r nv
    | _ => .stuck
  | _, _, _ => .stuck
section
variable (Φ : Fn) (shs : Nat → Nat → Shape)
mutual
def evE : E → Nv → Rs R
  | .var i, nv => rdVar i nv
  | .mov i, nv => mvVar i nv
  | .brw _, _ => .stuck
  | .non, nv => .ok (.val .non) nv
  | .bl b, nv => .ok (.val (.bl b)) nv
  | .int i, nv => .ok (.val (.int i)) nv
  | .str s, nv => .ok (.val (.str s)) nv
  | .op1 p a, nv => (opd a nv (evE a nv)).bind fun x nv1 => Rs.of ((look nv1 x).bind (p1 p)) nv1
  | .op2 p a b, nv => (opd a nv (evE a nv)).bind fun x nv1 => (opd b nv1 (evE b nv1)).bind fun y nv2 =>
    Rs.of ((look nv2 x).bind fun d => (look nv2 y).bind fun e => p2 p d e) nv2
  | .mop p a b, nv => (opd a nv (evE a nv)).bind fun x nv1 => match look nv1 x with
    | none => .stuck
    | some d0 => if recv p d0 = true then (opd b nv1 (evE b nv1)).bind fun y nv2 =>
        Rs.of ((look nv2 x).bind fun d => (look nv2 y).bind fun e => pm p d e) nv2
      else .stuck
  | .tup es, nv => (evOs es nv).bind fun os nv1 => Rs.of ((inls os).bind fun ds => if ds.length ≤ SZ then some (.val (.tup ds)) else none) nv1
  | .lst es, nv => (evOs es nv).bind fun os nv1 => Rs.of ((inls os).bind fun ds => if ds.length ≤ SZ then some (.own ds) else none) nv1
  | .and_ a b, nv => (evE a nv).bind fun r nv1 => match r with
    | .val (.bl true) => evE b nv1
    | .val (.bl false) => .ok (.val (.bl false)) nv1
    | _ => .stuck
  | .or_ a b, nv => (evE a nv).bind fun r nv1 => match r with
    | .val (.bl true) => .ok (.val (.bl true)) nv1
    | .val (.bl false) => evE b nv1
    | _ => .stuck
  | .not_ a, nv => (evE a nv).bind fun r nv1 => match r with
    | .val (.bl k) => .ok (.val (.bl (!k))) nv1
    | _ => .stuck
  | .ife c a b, nv => (evE c nv).bind fun r nv1 => match r with
    | .val (.bl true) => evE a nv1
    | .val (.bl false) => evE b nv1
    | _ => .stuck
  | .slc a lo hi, nv => (opd a nv (evE a nv)).bind fun x nv1 => (evE lo nv1).bind fun l nv2 => match part lo l.frz with
    | none => .stuck
    | some l => (evE hi nv2).bind fun h nv3 => match part hi h.frz with
      | none => .stuck
      | some h => Rs.of ((look nv3 x).bind fun d => pSlc d l h) nv3
  | .call f sh es, nv => (evOs es nv).bind fun os nv1 => callOn Φ f (shs f sh) os nv1
  | .comp t k es cs elt own, nv => (evOs es nv).bind fun os nv1 => match items k os with
    | none => .stuck
    | some xs => (compLoop (fun d nv => (asgD t d nv).bind fun _ nv2 => (evCs cs nv2).bind fun b nv3 =>
        if b = true then (evE elt nv3).bind fun r nv4 => .ok (some r.frz) (wipeN nv4 own) else .ok none (wipeN nv3 own)) xs [] (wipeN nv1 own)).nox.bind fun ys nv5 => .ok (.own ys) (back nv1 nv5 own)
  | .compB t i cs elt own, nv => match nv[i]? with
    | some (some (.lv (.l _) xs)) => (compLoop (fun d nv' => ((asgD t d nv').bind fun _ nv2 => (evCs cs nv2).bind fun b nv3 =>
        if b = true then (evE elt nv3).bind fun r nv4 => .ok (some r.frz) (wipeN nv4 own) else .ok none (wipeN nv3 own)).bind fun o nv5 => stayB i nv nv5 o) xs [] (wipeN nv own)).nox.bind fun ys nv5 => .ok (.own ys) (back nv nv5 own)
    | _ => .stuck
  | .comp2 t k es t2 k2 es2 elt own own2, nv => (evOs es nv).bind fun os nv1 => match items k os with
    | none => .stuck
    | some xs => (comp2Loop (fun d acc nv => (asgD t d nv).bind fun _ nv2 => (evOs es2 nv2).bind fun os2 nv3 => match items k2 os2 with
        | none => .stuck
        | some ys => (compLoop (fun d nv => (asgD t2 d nv).bind fun _ nv2 => (evE elt nv2).bind fun r nv4 => .ok (some r.frz) (wipeN nv4 own2)) ys acc (wipeN nv3 own2)).bind fun acc nv5 => .ok acc (wipeN nv5 own)) xs [] (wipeN nv1 own)).nox.bind fun ys nv5 => .ok (.own ys) (back nv1 nv5 own)
  | .mth m i es, nv => mthOn m i nv (evOs es nv)
  | .conv tu k es, nv => (evOs es nv).bind fun os nv1 => convOn tu k os nv1
  | .capp i ks es, nv => match nv[i]? with
    | some (some (.fn k cs)) => if k ∈ ks then (evOs es nv).bind fun os nv1 => match inls os with
      | some ds => cappOn Φ k (ds ++ cs) nv1
      | none => .stuck
      else .stuck
    | _ => .stuck
  | .callL f es k caps fs, nv => (evOs es nv).bind fun os nv1 => (evOs fs nv1).bind fun os2 nv2 => callLOn Φ f k (inls os) (inls os2) (capsD nv2 caps) nv2
  | .star a, nv => evE a nv
  | .tupS es, nv => (evTs es nv).bind fun ds nv1 => Rs.of (if ds.length ≤ SZ then some (.val (.tup ds)) else none) nv1
def evTs : List E → Nv → Rs (List D)
  | [], nv => .ok [] nv
  | e :: es, nv => tsStep e (evE e nv) (evTs es)
def evOs : List E → Nv → Rs (List (D ⊕ Nat))
  | [], nv => .ok [] nv
  | e :: es, nv => argStep e nv (evE e nv) (evOs es)
/-- all tests -/
def evCs : List E → Nv → Rs Bool
  | [], nv => .ok true nv
  | e :: es, nv => (evE e nv).bind fun r nv1 => match r with
    | .val (.bl true) => evCs es nv1
    | .val (.bl false) => .ok false nv1
    | _ => .stuck
end
end
/-! ### statements -/
inductive S where
  | asg (t : T) (e : E) | expr (e : E) | ife (c : E) (a b : List S) | for_ (t : T) (k : Ik) (es : List E) (body : List S) | whl (c : E) (body : List S)
  | ret (e : E) | retN | pas | brk | cnt | aug (i : Nat) (p : P2) (e : E) | sti (i : Nat) (ix e : E) | dnew (i : Nat) | dst (i : Nat) (ix e : E) | augi (i : Nat) (p : P2) (ix e : E) | par (i j : Nat) (a b : E)
  | rse (c : Nat) | try1 (body : List S) (c : Nat) (suite : List S)
  | kill (is : List Nat) | frz (i : Nat) | forB (t : T) (i : Nat) (body : List S)
  deriving Inhabited
inductive Fl where
  | nx | brk | cnt | ret (r : R)
open Classical in
/-- the slot i is as it was -/
noncomputable def stayF (i : Nat) (nv nv1 : Nv) (f : Fl) : Rs Fl := if nv1[i]? = nv[i]? then .ok f nv1 else .stuck
def forLoop (body : D → Nv → Rs Fl) : List D → Nv → Rs Fl
  | [], nv => .ok .nx nv
  | d :: ds, nv => (body d nv).bind fun f nv1 => match f with
    | .nx => forLoop body ds nv1
    | .cnt => forLoop body ds nv1
    | .brk => .ok .nx nv1
    | .ret r => .ok (.ret r) nv1
def whlLoop (test : Nv → Rs R) (body : Nv → Rs Fl) : Nat → Nv → Rs Fl
  | 0, _ => .stuck
  | n + 1, nv => (test nv).bind fun r nv1 => match r with
    | .val (.bl false) => .ok .nx nv1
    | .val (.bl true) => (body nv1).bind fun f nv2 => match f with
      | .nx => whlLoop test body n nv2
      | .cnt => whlLoop test body n nv2
      | .brk => .ok .nx nv2
      | .ret r => .ok (.ret r) nv2
    | _ => .stuck
def augIx (i : Nat) (k : D) (nv : Nv) : Rs D := match nv[i]?, k with
  | some (some (.lv (.l _) xs)), .int k => match atI xs k with
    | some d => .ok d nv
    | none => .stuck
  | _, _ => .stuck
/-- a store to a dict -/
def stDk (i : Nat) (ix d : D) (nv : Nv) : Rs Unit := match nv[i]?, ix with
  | some (some (.lv (.dict ks) ds)), .int k => if ds.length < SZ then .ok () (nv.set i (some (.lv (.dict (dkey ks k)) (dput ks ds k d)))) else .stuck
  | _, _ => .stuck
def stIx (i : Nat) (ix d : D) (nv : Nv) : Rs Unit := match nv[i]?, ix with
  | some (some (.lv (.l f) xs)), .int k => match ixN xs.length k with
    | some j => .ok () (nv.set i (some (.lv (.l f) (xs.set j d))))
    | none => .stuck
  | _, _ => .stuck
section
variable (Φ : Fn) (shs : Nat → Nat → Shape)
mutual
def evS : S → Nv → Rs Fl
  | .asg t e, nv => (evE Φ shs e nv).bind fun r nv1 => (asgR t r nv1).bind fun _ nv2 => .ok .nx nv2
  | .expr e, nv => (evE Φ shs e nv).bind fun _ nv1 => .ok .nx nv1
  | .ife c a b, nv => (evE Φ shs c nv).bind fun r nv1 => match r with
    | .val (.bl true) => evB a nv1
    | .val (.bl false) => evB b nv1
    | _ => .stuck
  | .for_ t k es body, nv => (evOs Φ shs es nv).bind fun os nv1 => match items k os with
    | none => .stuck
    | some xs => forLoop (fun d nv => (asgD t d nv).bind fun _ nv2 => evB body nv2) xs nv1
  | .forB t i body, nv => match nv[i]? with
    | some (some (.lv (.l _) xs)) => forLoop (fun d nv' => ((asgD t d nv').bind fun _ nv2 => evB body nv2).bind fun f nv3 => stayF i nv nv3 f) xs nv
    | _ => .stuck
  | .whl c body, nv => whlLoop (evE Φ shs c) (evB body) 1000000 nv
  | .ret e, nv => (evE Φ shs e nv).bind fun r nv1 => .ok (.ret r) nv1
  | .retN, nv => .ok (.ret (.val .non)) nv
  | .pas, nv => .ok .nx nv
  | .brk, nv => .ok .brk nv
  | .cnt, nv => .ok .cnt nv
  | .aug i p e, nv => match nv[i]? with
    | some (some (.val d)) => (evE Φ shs e nv).bind fun r nv1 => (Rs.of (pAug p d r.frz) nv1).bind fun r2 nv2 => (stSlot i r2.slot nv2).bind fun _ nv3 => .ok .nx nv3
    | _ => .stuck
  | .sti i ix e, nv => (evE Φ shs e nv).bind fun r nv1 => match nv1[i]? with
    | some (some (.lv (.l _) _)) => (evE Φ shs ix nv1).bind fun k nv2 => (stIx i k.frz r.frz nv2).bind fun _ nv3 => .ok .nx nv3
    | _ => .stuck
  | .dnew i, nv => (stSlot i (.lv (.dict []) []) nv).bind fun _ nv1 => .ok .nx nv1
  | .dst i ix e, nv => (evE Φ shs e nv).bind fun r nv1 => match nv1[i]? with
    | some (some (.lv (.dict _) _)) => (evE Φ shs ix nv1).bind fun k nv2 => (stDk i k.frz r.frz nv2).bind fun _ nv3 => .ok .nx nv3
    | _ => .stuck
  | .augi i p ix e, nv => match nv[i]? with
    | some (some (.lv (.l _) _)) => (evE Φ shs ix nv).bind fun k nv1 => (augIx i k.frz nv1).bind fun old nv2 => (evE Φ shs e nv2).bind fun r nv3 => (Rs.of (pAug p old r.frz) nv3).bind fun r2 nv4 => (stIx i k.frz r2.frz nv4).bind fun _ nv5 => .ok .nx nv5
    | _ => .stuck
  | .par i j a b, nv => (evE Φ shs a nv).bind fun x nv1 => (evE Φ shs b nv1).bind fun y nv2 => (stSlot j y.slot nv2).bind fun _ nv3 => (stSlot i x.slot nv3).bind fun _ nv4 => .ok .nx nv4
  | .rse c, nv => .exc c [] nv
  | .try1 body c suite, nv => match evB body nv with
    | .exc c' _ nv1 => if c = c' then evB suite nv1 else .stuck
    | r => r
  | .kill is, nv => .ok .nx (wipeN nv is)
  | .frz i, nv => (rdVar i nv).bind fun _ nv1 => .ok .nx nv1
def evB : List S → Nv → Rs Fl
  | [], nv => .ok .nx nv
  | s :: ss, nv => (evS s nv).bind fun f nv1 => match f with
    | .nx => evB ss nv1
    | f => .ok f nv1
end
/-- a def: how many slots, which parameters may be lent (they are never stored over), the body -/
structure Df where
  n : Nat
  pr : List Nat
  body : List S
def lentOk (pr : List Nat) (ss : List Sl) : Bool := (List.range ss.length).all fun p => match ss[p]? with
  | some (.lv _ _) => pr.contains p
  | _ => true
def outsOf (pr : List Nat) (ss : List Sl) (nv : Nv) : Option (List Sl) := (List.range ss.length).mapM fun p => if pr.contains p = true then nv[p]?.join else ss[p]?
def endDf (pr : List Nat) (ss : List Sl) : Rs Fl → Cr
  | .ok (.ret r) nv => match outsOf pr ss nv with
    | some outs => .ok r outs
    | none => .stuck
  | .ok .nx nv => match outsOf pr ss nv with
    | some outs => .ok (.val .non) outs
    | none => .stuck
  | .exc c as nv => match outsOf pr ss nv with
    | some outs => .exc c as outs
    | none => .stuck
  | _ => .stuck
def startNv (n : Nat) (ss : List Sl) : Nv := ss.map some ++ List.replicate (n - ss.length) none
def runDf (d : Df) (ss : List Sl) : Cr := if lentOk d.pr ss = true then endDf d.pr ss (evB Φ shs d.body (startNv d.n ss)) else .stuck
end
/-- all defs, to a depth -/
def calls (ds : List Df) (shs : Nat → Nat → Shape) : Nat → Fn
  | 0, _, _ => .stuck
  | n + 1, f, ss => match ds[f]? with
    | some d => runDf (calls ds shs n) shs d ss
    | none => .stuck
end
end G
namespace G
open PySem PySem.Spec PyProof.Rows L2
variable [Tb]
/-- where a body runs -/
structure Cfg where
  P : Program
  w : World
  K : PySem.W.Frag
  mg : Str → Option Value
  base : Heap
  N : List Str
  sc : Scope
  st : Str → Bool
  k : Nat
  exA : Nat → Option Addr
  pr : List Nat
  cd : Option (Value × Str) := none
structure AtE (C : Cfg) (W : WX) (X : Cx) : Prop where
  prog : X.prog = C.P
  w : X.w = C.w
  K : X.K = C.K
  mg : X.mg = C.mg
  base : X.base = C.base
  N : X.N = C.N
  sc : X.env.scope = C.sc
  calm : X.calm = true
  room : Room (C.k + 1) X.A
  nd : X.N.Nodup
  tk : Takes X W
  fn : ∀ x, C.st x = true → Loc X.env.scope x ∧ (X.fn x = true ∨ X.env.scope.names.lookup x = some .local)
  cd : ∀ q, C.cd = some q → X.env.code = q.1 ∧ X.env.qual = q.2
section
variable {C : Cfg} {W : WX} {X : Cx}
structure tE (C : Cfg) (W : WX) (x : Expr)  (σ : L2.St) (H : Hp) (Q : VK) : Prop where
  un : ∀ X, AtE C W X → ∀ pins s, Inv X pins σ H s → wpAny (model X.prog X.w) X.A (eval x X.env) (EP X pins σ Q) X.xe s
structure tT (C : Cfg) (W : WX) (x : Expr)  (σ : L2.St) (H : Hp) (Q : Bool → Hp → Prop) : Prop where
  un : ∀ X, AtE C W X → ∀ pins s, Inv X pins σ H s → wpAny (model X.prog X.w) X.A (isTrue x X.env (eval x X.env)) (TP X pins σ Q) X.xe s
structure tA (C : Cfg) (W : WX) (xs : List Expr)  (σ : L2.St) (H : Hp) (Q : List V → Hp → Prop) : Prop where
  un : ∀ X, AtE C W X → ∀ pos pins s, Inv X pins σ H s → wpAny (model X.prog X.w) X.A (spliced (backTo pos (starEach xs X.env))) (AP X pins σ Q) X.xe s
theorem PEo (h : AtE C W X) (x : Expr) : PE X x (tE C W x) := ⟨fun pins s σ H Q I t => t.un X h pins s I⟩
theorem PTo (h : AtE C W X) (x : Expr) : PT X x (tT C W x) := ⟨fun pins s σ H Q I t => t.un X h pins s I⟩
theorem PAo (h : AtE C W X) (x : List Expr) : PA X x (tA C W x) := ⟨fun pos pins s σ H Q I t => t.un X h pos pins s I⟩
theorem tE.by {x : Expr} {t : TE} {σ : L2.St} {H : Hp} {Q : VK} (pe : ∀ X, AtE C W X → PE X x t) (h : t σ H Q) : tE C W x σ H Q := ⟨fun X hX pins s I => (pe X hX).run pins s σ H Q I h⟩
theorem tT.by {x : Expr} {t : TT} {σ : L2.St} {H : Hp} {Q : Bool → Hp → Prop} (pe : ∀ X, AtE C W X → PT X x t) (h : t σ H Q) : tT C W x σ H Q := ⟨fun X hX pins s I => (pe X hX).run pins s σ H Q I h⟩
theorem tA.by {x : List Expr} {t : TA} {σ : L2.St} {H : Hp} {Q : List V → Hp → Prop} (pe : ∀ X, AtE C W X → PA X x t) (h : t σ H Q) : tA C W x σ H Q := ⟨fun X hX pos pins s I => (pe X hX).run pos pins s σ H Q I h⟩
def ExR (C : Cfg) (c : Nat) (as : List D) (cls : Value) (d : Option Addr) (H : Hp) : Prop := ∃ a, C.exA c = some a ∧ cls = .ref a ∧ d = none ∧ as = []
/-- behind an evaluation -/
def DoneE (C : Cfg) (W : WX) (M H : Hp) (σ : L2.St) (nv : Nv) (res : Rs R) (Q : VK) : Prop := match res with
  | .ok r nv' => ∀ v M' H', Step M H (Own σ nv) M' H' (fun a => Own σ nv' a ∨ ResO r v a) → StR C.K M' H' σ nv' → RR C.K M' H' (Own σ nv') r v → Q v H'
  | .exc c as nv' => ∀ cls d M' H', Step M H (Own σ nv) M' H' (Own σ nv') → StR C.K M' H' σ nv' → ExR C c as cls d H' → W cls d σ H'
  | .stuck => False
def DoneX {α : Type} (C : Cfg) (W : WX) (M H : Hp) (σ : L2.St) (nv : Nv) (res : Rs α) (post : α → Nv → Hp → Hp → Prop) : Prop := match res with
  | .ok a nv' => ∀ M' H', Step M H (Own σ nv) M' H' (Own σ nv') → StR C.K M' H' σ nv' → post a nv' M' H'
  | .exc c as nv' => ∀ cls d M' H', Step M H (Own σ nv) M' H' (Own σ nv') → StR C.K M' H' σ nv' → ExR C c as cls d H' → W cls d σ H'
  | .stuck => False
variable {M H M1 H1 : Hp} {σ : L2.St} {nv nv1 : Nv}
theorem DoneE.later {res : Rs R} {Q : VK} (h : DoneE C W M H σ nv res Q) (s : Step M H (Own σ nv) M1 H1 (Own σ nv1)) : DoneE C W M1 H1 σ nv1 res Q := by
  cases res with
  | ok r nv' => exact fun v M' H' s' => h v M' H' (s.trans s')
  | exc c as nv' => exact fun cls d M' H' s' => h cls d M' H' (s.trans s')
  | stuck => exact h
theorem DoneX.later {α : Type} {res : Rs α} {post : α → Nv → Hp → Hp → Prop} (h : DoneX C W M H σ nv res post) (s : Step M H (Own σ nv) M1 H1 (Own σ nv1)) : DoneX C W M1 H1 σ nv1 res post := by
  cases res with
  | ok r nv' => exact fun M' H' s' => h M' H' (s.trans s')
  | exc c as nv' => exact fun cls d M' H' s' => h cls d M' H' (s.trans s')
  | stuck => exact h
theorem DoneX.imp {α : Type} {res : Rs α} {post post' : α → Nv → Hp → Hp → Prop} (h : DoneX C W M H σ nv res post) (k : ∀ a nv' M' H', Step M H (Own σ nv) M' H' (Own σ nv') → StR C.K M' H' σ nv' → post a nv' M' H' → post' a nv' M' H') : DoneX C W M H σ nv res post' := by
  cases res with
  | ok r nv' => exact fun M' H' s' st => k _ _ _ _ s' st (h M' H' s' st)
  | exc c as nv' => exact h
  | stuck => exact h
def SndE (C : Cfg) (W : WX) (x : Expr) (f : Nv → Rs R) : Prop := ∀ M H σ nv Q, StR C.K M H σ nv → DoneE C W M H σ nv (f nv) Q → tE C W x σ H Q
/-- first x, frozen, then what g says -/
theorem SndE.then {x : Expr} {f : Nv → Rs R} {α : Type} {g : R → Nv → Rs α} {post : α → Nv → Hp → Hp → Prop} {Q : VK} (h : SndE C W x f) (st : StR C.K M H σ nv) (hd : DoneX C W M H σ nv ((f nv).bind g) post)
    (k : ∀ r nv1 v M1 H1, f nv = .ok r nv1 → StR C.K M1 H1 σ nv1 → Rep C.K M1 r.frz v → Step M H (Own σ nv) M1 H1 (Own σ nv1) → DoneX C W M1 H1 σ nv1 (g r nv1) post → Q v H1) : tE C W x σ H Q := by
  refine h M H σ nv Q st ?_
  cases e : f nv with
  | ok r nv1 =>
    rw [e] at hd
    intro v M' H' s st' rr
    obtain ⟨M2, st2, rp, s2, _⟩ := freeze st' rr s
    exact k r nv1 v M2 H' e st2 rp s2 (DoneX.later hd s2)
  | exc c as nv1 => rw [e] at hd; exact hd
  | stuck => rw [e] at hd; exact hd.elim
theorem SndE.thenE {x : Expr} {f : Nv → Rs R} {g : R → Nv → Rs R} {Q Q' : VK} (h : SndE C W x f) (st : StR C.K M H σ nv) (hd : DoneE C W M H σ nv ((f nv).bind g) Q')
    (k : ∀ r nv1 v M1 H1, f nv = .ok r nv1 → StR C.K M1 H1 σ nv1 → Rep C.K M1 r.frz v → Step M H (Own σ nv) M1 H1 (Own σ nv1) → DoneE C W M1 H1 σ nv1 (g r nv1) Q' → Q v H1) : tE C W x σ H Q := by
  refine h M H σ nv Q st ?_
  cases e : f nv with
  | ok r nv1 =>
    rw [e] at hd
    intro v M' H' s st' rr
    obtain ⟨M2, st2, rp, s2, _⟩ := freeze st' rr s
    exact k r nv1 v M2 H' e st2 rp s2 (DoneE.later hd s2)
  | exc c as nv1 => rw [e] at hd; exact hd
  | stuck => rw [e] at hd; exact hd.elim
/-! ### operands: a name is looked at when the operation is done -/
def OpdR (K : PySem.W.Frag) (M : Hp) (σ : L2.St) : D ⊕ Nat → V → Prop
  | .inl d, v => Rep K M d v
  | .inr i, v => σ[i]? = some (some v)
theorem OpdR.mono {K : PySem.W.Frag} {M M' : Hp} {σ : L2.St} {o : D ⊕ Nat} {v : V} (e : Same M M') (h : OpdR K M σ o v) : OpdR K M' σ o v := by
  cases o with
  | inl d => exact Rep.mono e h
  | inr i => exact h
/-- a list may be own at the top -/
def RepT (K : PySem.W.Frag) (M H : Hp) : D → V → Prop
  | .lst ds, v => ∃ a vs, v = .ref a ∧ H a = some (.lst vs) ∧ Reps K M ds vs
  | .tup ds, v => ∃ a vs, v = .ref a ∧ GT.SqN K M a vs ∧ Reps K M ds vs
  | .non, v => v = .non
  | .bl b, v => v = .bl b
  | .int i, v => v = .int i
  | .str s, v => v = .str s
  | .scr ns, v => ∃ a, v = .ref a ∧ SqL K M a (ns.map V.int)
  | .dct ks ds, v => ∃ a vs, v = .ref a ∧ H a = some (.dK (zk ks vs)) ∧ ks.length = ds.length ∧ Reps K M ds vs
theorem Rep.top {K : PySem.W.Frag} {M H : Hp} {d : D} {v : V} (e : Same M H) (h : Rep K M d v) : RepT K M H d v := by
  cases d with
  | lst ds =>
    simp only [Rep] at h
    obtain ⟨a, vs, h1, h2, h3⟩ := h
    exact ⟨a, vs, h1, e _ _ h2, h3⟩
  | tup ds => simpa only [Rep, RepT] using h
  | non => simpa only [Rep, RepT] using h
  | bl b => simpa only [Rep, RepT] using h
  | int i => simpa only [Rep, RepT] using h
  | str s => simpa only [Rep, RepT] using h
  | scr ns => simpa only [Rep, RepT] using h
  | dct ks ds =>
    simp only [Rep] at h
    obtain ⟨a, vs, h1, h2, h3⟩ := h
    exact ⟨a, vs, h1, e _ _ h2, h3⟩
theorem look_ok {K : PySem.W.Frag} {o : D ⊕ Nat} {v : V} {d : D} (st : StR K M H σ nv) (h : OpdR K M σ o v) (l : look nv o = some d) : RepT K M H d v := by
  cases o with
  | inl d' =>
    simp only [look, Option.some.injEq] at l
    subst l
    exact Rep.top st.ext h
  | inr i =>
    simp only [look] at l
    have h' : σ[i]? = some (some v) := h
    split at l
    · rename_i d' q
      simp only [Option.some.injEq] at l
      subst l
      obtain ⟨v', e1, e2⟩ := st.get i _ q
      rw [h'] at e1
      cases e1
      exact Rep.top st.ext e2
    · rename_i f ds q
      simp only [Option.some.injEq] at l
      subst l
      obtain ⟨v', e1, e2⟩ := st.get i _ q
      rw [h'] at e1
      cases e1
      obtain ⟨a, o, e3, _, e5, vs, rfl, e6⟩ := e2
      exact ⟨a, vs, e3, e5, e6⟩
    · rename_i ks ds q
      simp only [Option.some.injEq] at l
      subst l
      obtain ⟨v', e1, e2⟩ := st.get i _ q
      rw [h'] at e1
      cases e1
      obtain ⟨a, o, e3, _, e5, vs, rfl, e6⟩ := e2
      exact ⟨a, vs, e3, e5, e6⟩
    · cases l
def SndO (C : Cfg) (W : WX) (x : Expr) (f : Nv → Rs (D ⊕ Nat)) : Prop := ∀ M H σ nv Q, StR C.K M H σ nv → DoneX C W M H σ nv (f nv) (fun o nv' M' H' => ∀ v, OpdR C.K M' σ o v → Q v H') → tE C W x σ H Q
theorem SndO.then {x : Expr} {f : Nv → Rs (D ⊕ Nat)} {g : (D ⊕ Nat) → Nv → Rs R} {Q Q' : VK} (h : SndO C W x f) (st : StR C.K M H σ nv) (hd : DoneE C W M H σ nv ((f nv).bind g) Q')
    (k : ∀ o nv1 v M1 H1, f nv = .ok o nv1 → StR C.K M1 H1 σ nv1 → OpdR C.K M1 σ o v → Step M H (Own σ nv) M1 H1 (Own σ nv1) → DoneE C W M1 H1 σ nv1 (g o nv1) Q' → Q v H1) : tE C W x σ H Q := by
  refine h M H σ nv Q st ?_
  cases e : f nv with
  | ok o nv1 =>
    rw [e] at hd
    intro M' H' s st' v ov
    exact k o nv1 v M' H' e st' ov s (DoneE.later hd s)
  | exc c as nv1 => rw [e] at hd; exact hd
  | stuck => rw [e] at hd; exact hd.elim
/-! ### names -/
def okName (N : List Str) (sc : Scope) (i : Nat) (x : Str) : Bool := decide (N[i]? = some x) && (decide (sc.names.lookup x = some .local) || decide (sc.names.lookup x = some .cell) || decide (sc.names.lookup x = some .free)) && !(x == ("__debug__" : Str)) && !(x == ("__classdict__" : Str))
theorem okName_vis {N : List Str} {sc : Scope} {i : Nat} {x : Str} (h : okName N sc i x = true) : N[i]? = some x ∧ Vis sc x ∧ (x == ("__debug__" : Str)) = false ∧ (x == ("__classdict__" : Str)) = false := by
  unfold okName at h
  simp only [Bool.and_eq_true, Bool.or_eq_true, decide_eq_true_eq, Bool.not_eq_true'] at h
  obtain ⟨⟨⟨h1, h2⟩, h3⟩, h4⟩ := h
  refine ⟨h1, ?_, h3, h4⟩
  rcases h2 with (h2 | h2) | h2
  · exact .inl h2
  · exact .inr (.inl h2)
  · exact .inr (.inr h2)
theorem pe_name {i : Nat} {x : Str} {pos : Pos} (h : okName C.N C.sc i x = true) (X : Cx) (hX : AtE C W X) : PE X (.Name x pos) (tVar i) := by
  obtain ⟨h1, h2, h3, h4⟩ := okName_vis h
  exact pe_var (by rw [hX.N]; exact h1) (by rw [hX.sc]; exact h2) h3 h4
theorem sndO_var {i : Nat} {x : Str} {pos : Pos} (h : okName C.N C.sc i x = true) (ra : Nv → Rs R) : SndO C W (.Name x pos) (fun nv => opd (.var i) nv (ra nv)) := by
  intro M H σ nv Q st hd
  refine tE.by (pe_name h) ?_
  simp only [opd] at hd
  split at hd
  · rename_i s q
    obtain ⟨v, e1, _⟩ := st.get i _ q
    exact ⟨v, e1, hd M H (Step.refl _ _ _) st v e1⟩
  · exact hd.elim
def isVar : E → Bool
  | .var _ => true
  | _ => false
theorem sndO_of {x : Expr} {a : E} {ra : Nv → Rs R} (na : isVar a = false) (h : SndE C W x ra) : SndO C W x (fun nv => opd a nv (ra nv)) := by
  intro M H σ nv Q st hd
  have e : opd a nv (ra nv) = (ra nv).bind fun r nv1 => .ok (.inl r.frz) nv1 := by
    cases a <;> first | rfl | (cases na)
  have hd : DoneX C W M H σ nv (opd a nv (ra nv)) _ := hd
  rw [e] at hd
  exact SndE.then h st hd fun r nv1 v M1 H1 e1 st1 rp s1 hd1 => hd1 M1 H1 (Step.refl _ _ _) st1 v rp
/-! ### operations on data -/
structure Prim (M H M' H' : Hp) : Prop where
  mm : Same M M'
  hh : Same H H'
  ext : Same M' H'
  mnew : ∀ a o, M' a = some o → M a = some o ∨ H a = none
theorem Prim.refl (e : Same M H) : Prim M H M H := ⟨Same.refl _, Same.refl _, e, fun _ _ h => .inl h⟩
def PR (K : PySem.W.Frag) (M H M' H' : Hp) : R → V → Prop
  | .val d, v => Rep K M' d v
  | .own ds, v => ∃ a vs, v = .ref a ∧ H' a = some (.lst vs) ∧ M' a = none ∧ H a = none ∧ Reps K M' ds vs
theorem prim_done {r : R} {v : V} {Q : VK} {M' H' : Hp} (hd : DoneE C W M H σ nv (.ok r nv) Q) (st : StR C.K M H σ nv) (p : Prim M H M' H') (h : PR C.K M H M' H' r v) : Q v H' := by
  have own : ∀ a, Own σ nv a → M' a = none := fun a h => by
    cases e : M' a with
    | none => rfl
    | some o =>
      obtain ⟨h1, vs, h2⟩ := st.own_at h
      rcases p.mnew a o e with z | z
      · rw [h1] at z; cases z
      · rw [h2] at z; cases z
  have st' : StR C.K M' H' σ nv := st.grow p.mm (fun a o h => p.hh a o h) p.ext own
  have dom : ∀ a, H' a = none → H a = none := fun a h => by
    cases e : H a with
    | none => rfl
    | some o => rw [p.hh a o e] at h; cases h
  have mnew : ∀ a o, M' a = some o → M a = some o ∨ Own σ nv a ∨ H a = none := fun a o h => (p.mnew a o h).elim .inl fun z => .inr (.inr z)
  cases r with
  | val d => exact hd v M' H' ⟨p.mm, fun a o h _ => p.hh a o h, fun a h => .inl (h.elim id False.elim), dom, mnew⟩ st' h
  | own ds =>
    obtain ⟨a, vs, rfl, h1, h2, h3, h4⟩ := h
    refine hd _ M' H' ⟨p.mm, fun a o h _ => p.hh a o h, fun b hb => ?_, dom, mnew⟩ st' ⟨a, vs, rfl, h1, h2, fun z => ?_, h4⟩
    · rcases hb with z | z
      · exact .inl z
      · have z' : V.ref a = V.ref b := z
        injection z' with z'
        exact .inr (z' ▸ h3)
    · obtain ⟨_, vs', h5⟩ := st.own_at z
      rw [h3] at h5; cases h5
abbrev Ok1 (K : PySem.W.Frag) (r : V → Hp → VK → Prop) (p : D → Option R) : Prop := ∀ (M H : Hp) (d : D) (v : V) (res : R) (Q : VK), Same M H → RepT K M H d v → p d = some res →
  (∀ v' M' H', Prim M H M' H' → PR K M H M' H' res v' → Q v' H') → r v H Q
abbrev Ok2 (K : PySem.W.Frag) (r : V → V → Hp → VK → Prop) (p : D → D → Option R) : Prop := ∀ (M H : Hp) (d e : D) (v u : V) (res : R) (Q : VK), Same M H → RepT K M H d v → RepT K M H e u → p d e = some res →
  (∀ v' M' H', Prim M H M' H' → PR K M H M' H' res v' → Q v' H') → r v u H Q
section
variable {Φ : Fn} {shs : Nat → Nat → Shape}
theorem snd_op1 {x whole : Expr} {a : E} {p : P1} {r : V → Hp → VK → Prop} (ho : SndO C W x (fun nv => opd a nv (evE Φ shs a nv)))
    (pe : ∀ X, AtE C W X → PE X whole (fun σ H Q => tE C W x σ H fun v H1 => r v H1 Q)) (ok : Ok1 C.K r (p1 p)) : SndE C W whole (evE Φ shs (.op1 p a)) := by
  intro M H σ nv Q st hd
  refine tE.by pe ?_
  rw [evE] at hd
  refine SndO.then ho st hd fun o nv1 v M1 H1 e1 st1 ov s1 hd1 => ?_
  cases l : look nv1 o with
  | none => rw [l] at hd1; exact hd1.elim
  | some d =>
    rw [l] at hd1
    cases q : p1 p d with
    | none =>
      have : DoneE C W M1 H1 σ nv1 (Rs.of (p1 p d) nv1) Q := hd1
      rw [q] at this; exact this.elim
    | some res =>
      have hd2 : DoneE C W M1 H1 σ nv1 (Rs.of (p1 p d) nv1) Q := hd1
      rw [q] at hd2
      exact ok M1 H1 d v res Q st1.ext (look_ok st1 ov l) q fun v' M' H' p' h' => prim_done hd2 st1 p' h'
theorem snd_op2 {x y whole : Expr} {a b : E} {p : P2} {r : V → V → Hp → VK → Prop} (ho : SndO C W x (fun nv => opd a nv (evE Φ shs a nv))) (ho2 : SndO C W y (fun nv => opd b nv (evE Φ shs b nv)))
    (pe : ∀ X, AtE C W X → PE X whole (fun σ H Q => tE C W x σ H fun v H1 => tE C W y σ H1 fun u H2 => r v u H2 Q)) (ok : Ok2 C.K r (p2 p)) : SndE C W whole (evE Φ shs (.op2 p a b)) := by
  intro M H σ nv Q st hd
  refine tE.by pe ?_
  rw [evE] at hd
  refine SndO.then ho st hd fun o nv1 v M1 H1 e1 st1 ov s1 hd1 => ?_
  refine SndO.then ho2 st1 hd1 fun o2 nv2 u M2 H2 e2 st2 ou s2 hd2 => ?_
  have ov2 := OpdR.mono s2.mm ov
  cases l : look nv2 o with
  | none => rw [l] at hd2; exact hd2.elim
  | some d =>
    cases l2 : look nv2 o2 with
    | none => rw [l, l2] at hd2; exact hd2.elim
    | some e =>
      rw [l, l2] at hd2
      have hd3 : DoneE C W M2 H2 σ nv2 (Rs.of (p2 p d e) nv2) Q := hd2
      cases q : p2 p d e with
      | none => rw [q] at hd3; exact hd3.elim
      | some res =>
        rw [q] at hd3
        exact ok M2 H2 d e v u res Q st2.ext (look_ok st2 ov2 l) (look_ok st2 ou l2) q fun v' M' H' p' h' => prim_done hd3 st2 p' h'
end
/-- a scalar result -/
theorem PR.val0 {K : PySem.W.Frag} {Q : VK} {d : D} {v : V} (e : Same M H) (k : ∀ v' M' H', Prim M H M' H' → PR K M H M' H' (.val d) v' → Q v' H') (h : Rep K M d v) : Q v H := k v M H (Prim.refl e) h
/-- a new tuple, a new list -/
theorem PR.tup {K : PySem.W.Frag} {Q : VK} {ds : List D} {vs : List V} (e : Same M H) (k : ∀ v' M' H', Prim M H M' H' → PR K M H M' H' (.val (.tup ds)) v' → Q v' H') (h : Reps K M ds vs) : GT.MkT H vs Q := by
  intro p ob np no
  have mp : M p = none := by
    cases q : M p with
    | none => rfl
    | some o => rw [e _ _ q] at np; cases np
  have sm : Same M (upd M p (.frz ob (.tup vs))) := same_upd mp
  refine k (.ref p) (upd M p (.frz ob (.tup vs))) _ ⟨sm, same_upd np, fun a o h => ?_, fun a o h => ?_⟩ ?_
  · by_cases ha : a = p
    · subst ha; rw [upd_same] at h ⊢; exact h
    · rw [upd_ne ha] at h ⊢; exact e _ _ h
  · by_cases ha : a = p
    · subst ha; exact .inr np
    · rw [upd_ne ha] at h; exact .inl h
  · simp only [PR, Rep]
    exact ⟨p, vs, rfl, .inl ⟨ob, upd_same, no⟩, Reps.mono sm h⟩
theorem PR.lst {K : PySem.W.Frag} {Q : VK} {ds : List D} {vs : List V} {p : Addr} (e : Same M H) (k : ∀ v' M' H', Prim M H M' H' → PR K M H M' H' (.own ds) v' → Q v' H') (h : Reps K M ds vs) (np : H p = none) : Q (.ref p) (upd H p (.lst vs)) := by
  have mp : M p = none := by
    cases q : M p with
    | none => rfl
    | some o => rw [e _ _ q] at np; cases np
  refine k (.ref p) M _ ⟨Same.refl _, same_upd np, fun a o h => ?_, fun a o h => .inl h⟩ ?_
  · rw [upd_ne (ne_of_none h mp)]; exact e _ _ h
  · exact ⟨p, vs, rfl, upd_same, mp, np, h⟩
end
end G
namespace G
open PySem PySem.Spec PyProof.Rows L2
theorem lexAt_shift (e r : Nat → Bool) (z : Bool) : ∀ (k i : Nat), Ob.lexAt e r z (i + 1) k = Ob.lexAt (fun j => e (j + 1)) (fun j => r (j + 1)) z i k
  | 0, _ => rfl
  | k + 1, i => by
    rw [Ob.lexAt_succ, Ob.lexAt_succ, lexAt_shift e r z k (i + 1)]
theorem lexAt_O (f : Int → Int → Bool) (z : Nat → Nat → Bool) (z0 : z 0 0 = f 0 0) (z1 : ∀ m, z 0 (m + 1) = f 0 1) (z2 : ∀ n, z (n + 1) 0 = f 1 0) (z3 : ∀ n m, z (n + 1) (m + 1) = z n m) :
    ∀ ns ms : List Int, Ob.lexAt (fun j => decide (ns.getD j 0 = ms.getD j 0)) (fun j => f (ns.getD j 0) (ms.getD j 0)) (z ns.length ms.length) 0 (min ns.length ms.length) = lexO f ns ms
  | [], [] => z0
  | [], _ :: ms => by simp only [List.length_nil, Nat.zero_min, Ob.lexAt_zero, lexO, List.length_cons]; exact z1 _
  | _ :: ns, [] => by simp only [List.length_nil, Nat.min_zero, Ob.lexAt_zero, lexO, List.length_cons]; exact z2 _
  | x :: ns, y :: ms => by
    rw [List.length_cons, List.length_cons, show min (ns.length + 1) (ms.length + 1) = min ns.length ms.length + 1 by omega, Ob.lexAt_succ, lexAt_shift, z3]
    have ih := lexAt_O f z z0 z1 z2 z3 ns ms
    rw [lexO]
    simp only [List.getD_cons_zero, List.getD_cons_succ, decide_eq_true_eq]
    rw [ih]
def rLexO (K : PySem.W.Frag) (f : Int → Int → Bool) : R2 := fun x y H Q => ∃ (a b : Addr) (ns ms : List Int), x = .ref a ∧ y = .ref b ∧ SqT K H a (ns.map V.int) ∧ SqT K H b (ms.map V.int) ∧ Q (.bl (lexO f ns ms)) H
theorem op_ltO {X : Cx} (hu : X.A.units < cLine) : OpR X (compareOp .Lt) (rLexO X.K (fun i j => decide (i < j))) := by
  intro pins s σ H x y v u Q I rx ry h
  obtain ⟨a, b, ns, ms, rfl, rfl, ha, hb, q⟩ := h
  cases rx
  cases ry
  obtain ⟨its, r1, p1, _⟩ := I.tuple ha
  obtain ⟨its2, r2, p2, _⟩ := I.tuple hb
  have i1 : IntsAre its ns := Vals.ints r1
  have i2 : IntsAre its2 ms := Vals.ints r2
  have e1 : its.toArray.size = ns.length := by rw [List.size_toArray]; exact i1.length
  have e2 : its2.toArray.size = ms.length := by rw [List.size_toArray]; exact i2.length
  have at1 : ∀ j (h1 : j < its.toArray.size), ∃ t, its.toArray[j] = .int (ns.getD j 0) t := fun j h1 => PyProof.Rows.IntsAre.int_at i1 _ _ (by simp at h1; simp [h1])
  have at2 : ∀ j (h1 : j < its2.toArray.size), ∃ t, its2.toArray[j] = .int (ms.getD j 0) t := fun j h1 => PyProof.Rows.IntsAre.int_at i2 _ _ (by simp at h1; simp [h1])
  have R := Ob.RcOp.tuples_lt (A := X.A) (s := s) (e := fun j => decide (ns.getD j 0 = ms.getD j 0)) (r := fun j => (fun i j => decide (i < j)) (ns.getD j 0) (ms.getD j 0)) p1 p2 hu (fun j h1 h2 => by
    obtain ⟨t, et⟩ := at1 j h1
    obtain ⟨t', et'⟩ := at2 j h2
    rw [et, et']
    have z : (ns.getD j 0 == ms.getD j 0) = decide (ns.getD j 0 = ms.getD j 0) := by
      by_cases q : ns.getD j 0 = ms.getD j 0
      · rw [decide_eq_true q]; exact beq_iff_eq.mpr q
      · rw [decide_eq_false q]; exact beq_eq_false_iff_ne.mpr q
    rw [← z]
    exact SeqAt.EqAt.int_int _ _ _ _) (fun j h1 h2 _ => by
    obtain ⟨t, et⟩ := at1 j h1
    obtain ⟨t', et'⟩ := at2 j h2
    rw [et, et']
    exact Ob.RcOp.lt_int _ _ _ _)
  rw [e1, e2] at R
  rw [← lexAt_O (fun i j => decide (i < j)) (fun n m => decide (n < m)) (by decide) (by simp) (by simp) (by simp)] at q
  exact R X.prog X.w X.xe (EP X pins σ Q) ⟨.bl _, H, I, rfl, q⟩
theorem op_leO {X : Cx} (hu : X.A.units < cLine) : OpR X (compareOp .LtE) (rLexO X.K (fun i j => decide (i ≤ j))) := by
  intro pins s σ H x y v u Q I rx ry h
  obtain ⟨a, b, ns, ms, rfl, rfl, ha, hb, q⟩ := h
  cases rx
  cases ry
  obtain ⟨its, r1, p1, _⟩ := I.tuple ha
  obtain ⟨its2, r2, p2, _⟩ := I.tuple hb
  have i1 : IntsAre its ns := Vals.ints r1
  have i2 : IntsAre its2 ms := Vals.ints r2
  have e1 : its.toArray.size = ns.length := by rw [List.size_toArray]; exact i1.length
  have e2 : its2.toArray.size = ms.length := by rw [List.size_toArray]; exact i2.length
  have at1 : ∀ j (h1 : j < its.toArray.size), ∃ t, its.toArray[j] = .int (ns.getD j 0) t := fun j h1 => PyProof.Rows.IntsAre.int_at i1 _ _ (by simp at h1; simp [h1])
  have at2 : ∀ j (h1 : j < its2.toArray.size), ∃ t, its2.toArray[j] = .int (ms.getD j 0) t := fun j h1 => PyProof.Rows.IntsAre.int_at i2 _ _ (by simp at h1; simp [h1])
  have R := Ob.RcOp.tuples_le (A := X.A) (s := s) (e := fun j => decide (ns.getD j 0 = ms.getD j 0)) (r := fun j => (fun i j => decide (i ≤ j)) (ns.getD j 0) (ms.getD j 0)) p1 p2 hu (fun j h1 h2 => by
    obtain ⟨t, et⟩ := at1 j h1
    obtain ⟨t', et'⟩ := at2 j h2
    rw [et, et']
    have z : (ns.getD j 0 == ms.getD j 0) = decide (ns.getD j 0 = ms.getD j 0) := by
      by_cases q : ns.getD j 0 = ms.getD j 0
      · rw [decide_eq_true q]; exact beq_iff_eq.mpr q
      · rw [decide_eq_false q]; exact beq_eq_false_iff_ne.mpr q
    rw [← z]
    exact SeqAt.EqAt.int_int _ _ _ _) (fun j h1 h2 _ => by
    obtain ⟨t, et⟩ := at1 j h1
    obtain ⟨t', et'⟩ := at2 j h2
    rw [et, et']
    exact Ob.RcOp.le_int _ _ _ _)
  rw [e1, e2] at R
  rw [← lexAt_O (fun i j => decide (i ≤ j)) (fun n m => decide (n ≤ m)) (by decide) (by simp) (by simp) (by simp)] at q
  exact R X.prog X.w X.xe (EP X pins σ Q) ⟨.bl _, H, I, rfl, q⟩
theorem op_gtO {X : Cx} (hu : X.A.units < cLine) : OpR X (compareOp .Gt) (rLexO X.K (fun i j => decide (j < i))) := by
  intro pins s σ H x y v u Q I rx ry h
  obtain ⟨a, b, ns, ms, rfl, rfl, ha, hb, q⟩ := h
  cases rx
  cases ry
  obtain ⟨its, r1, p1, _⟩ := I.tuple ha
  obtain ⟨its2, r2, p2, _⟩ := I.tuple hb
  have i1 : IntsAre its ns := Vals.ints r1
  have i2 : IntsAre its2 ms := Vals.ints r2
  have e1 : its.toArray.size = ns.length := by rw [List.size_toArray]; exact i1.length
  have e2 : its2.toArray.size = ms.length := by rw [List.size_toArray]; exact i2.length
  have at1 : ∀ j (h1 : j < its.toArray.size), ∃ t, its.toArray[j] = .int (ns.getD j 0) t := fun j h1 => PyProof.Rows.IntsAre.int_at i1 _ _ (by simp at h1; simp [h1])
  have at2 : ∀ j (h1 : j < its2.toArray.size), ∃ t, its2.toArray[j] = .int (ms.getD j 0) t := fun j h1 => PyProof.Rows.IntsAre.int_at i2 _ _ (by simp at h1; simp [h1])
  have R := Ob.RcOp.tuples_gt (A := X.A) (s := s) (e := fun j => decide (ns.getD j 0 = ms.getD j 0)) (r := fun j => (fun i j => decide (j < i)) (ns.getD j 0) (ms.getD j 0)) p1 p2 hu (fun j h1 h2 => by
    obtain ⟨t, et⟩ := at1 j h1
    obtain ⟨t', et'⟩ := at2 j h2
    rw [et, et']
    have z : (ns.getD j 0 == ms.getD j 0) = decide (ns.getD j 0 = ms.getD j 0) := by
      by_cases q : ns.getD j 0 = ms.getD j 0
      · rw [decide_eq_true q]; exact beq_iff_eq.mpr q
      · rw [decide_eq_false q]; exact beq_eq_false_iff_ne.mpr q
    rw [← z]
    exact SeqAt.EqAt.int_int _ _ _ _) (fun j h1 h2 _ => by
    obtain ⟨t, et⟩ := at1 j h1
    obtain ⟨t', et'⟩ := at2 j h2
    rw [et, et']
    exact Ob.RcOp.gt_int _ _ _ _)
  rw [e1, e2] at R
  rw [← lexAt_O (fun i j => decide (j < i)) (fun n m => decide (n > m)) (by decide) (by simp) (by simp) (by simp)] at q
  exact R X.prog X.w X.xe (EP X pins σ Q) ⟨.bl _, H, I, rfl, q⟩
theorem op_geO {X : Cx} (hu : X.A.units < cLine) : OpR X (compareOp .GtE) (rLexO X.K (fun i j => decide (j ≤ i))) := by
  intro pins s σ H x y v u Q I rx ry h
  obtain ⟨a, b, ns, ms, rfl, rfl, ha, hb, q⟩ := h
  cases rx
  cases ry
  obtain ⟨its, r1, p1, _⟩ := I.tuple ha
  obtain ⟨its2, r2, p2, _⟩ := I.tuple hb
  have i1 : IntsAre its ns := Vals.ints r1
  have i2 : IntsAre its2 ms := Vals.ints r2
  have e1 : its.toArray.size = ns.length := by rw [List.size_toArray]; exact i1.length
  have e2 : its2.toArray.size = ms.length := by rw [List.size_toArray]; exact i2.length
  have at1 : ∀ j (h1 : j < its.toArray.size), ∃ t, its.toArray[j] = .int (ns.getD j 0) t := fun j h1 => PyProof.Rows.IntsAre.int_at i1 _ _ (by simp at h1; simp [h1])
  have at2 : ∀ j (h1 : j < its2.toArray.size), ∃ t, its2.toArray[j] = .int (ms.getD j 0) t := fun j h1 => PyProof.Rows.IntsAre.int_at i2 _ _ (by simp at h1; simp [h1])
  have R := Ob.RcOp.tuples_ge (A := X.A) (s := s) (e := fun j => decide (ns.getD j 0 = ms.getD j 0)) (r := fun j => (fun i j => decide (j ≤ i)) (ns.getD j 0) (ms.getD j 0)) p1 p2 hu (fun j h1 h2 => by
    obtain ⟨t, et⟩ := at1 j h1
    obtain ⟨t', et'⟩ := at2 j h2
    rw [et, et']
    have z : (ns.getD j 0 == ms.getD j 0) = decide (ns.getD j 0 = ms.getD j 0) := by
      by_cases q : ns.getD j 0 = ms.getD j 0
      · rw [decide_eq_true q]; exact beq_iff_eq.mpr q
      · rw [decide_eq_false q]; exact beq_eq_false_iff_ne.mpr q
    rw [← z]
    exact SeqAt.EqAt.int_int _ _ _ _) (fun j h1 h2 _ => by
    obtain ⟨t, et⟩ := at1 j h1
    obtain ⟨t', et'⟩ := at2 j h2
    rw [et, et']
    exact Ob.RcOp.ge_int _ _ _ _)
  rw [e1, e2] at R
  rw [← lexAt_O (fun i j => decide (j ≤ i)) (fun n m => decide (n ≥ m)) (by decide) (by simp) (by simp) (by simp)] at q
  exact R X.prog X.w X.xe (EP X pins σ Q) ⟨.bl _, H, I, rfl, q⟩
theorem firstLt_at (e r : Nat → Bool) (z : Bool) : ∀ (k i : Nat), SeqAt.firstLt e r z (List.range' i k) = Ob.lexAt e r z i k
  | 0, _ => rfl
  | k + 1, i => by
    rw [List.range'_succ, Ob.lexAt_succ, ← firstLt_at e r z k (i + 1)]
    rfl
def rLexL (K : PySem.W.Frag) (f : Int → Int → Bool) : R2 := fun x y H Q => ∃ (a b : Addr) (ns ms : List Int), x = .ref a ∧ y = .ref b ∧ SqL K H a (ns.map V.int) ∧ SqL K H b (ms.map V.int) ∧ Q (.bl (lexO f ns ms)) H
theorem op_leL {X : Cx} (hu : X.A.units < cLine) : OpR X (compareOp .LtE) (rLexL X.K (fun i j => decide (i ≤ j))) := by
  intro pins s σ H x y v u Q I rx ry h
  obtain ⟨a, b, ns, ms, rfl, rfl, ha, hb, q⟩ := h
  cases rx
  cases ry
  obtain ⟨its, r1, p1, _⟩ := I.list ha
  obtain ⟨its2, r2, p2, _⟩ := I.list hb
  have i1 : IntsAre its ns := Vals.ints r1
  have i2 : IntsAre its2 ms := Vals.ints r2
  have e1 : its.toArray.size = ns.length := by rw [List.size_toArray]; exact i1.length
  have e2 : its2.toArray.size = ms.length := by rw [List.size_toArray]; exact i2.length
  have at1 : ∀ j (h1 : j < its.toArray.size), ∃ t, its.toArray[j] = .int (ns.getD j 0) t := fun j h1 => PyProof.Rows.IntsAre.int_at i1 _ _ (by simp at h1; simp [h1])
  have at2 : ∀ j (h1 : j < its2.toArray.size), ∃ t, its2.toArray[j] = .int (ms.getD j 0) t := fun j h1 => PyProof.Rows.IntsAre.int_at i2 _ _ (by simp at h1; simp [h1])
  have R := SeqAt.RcOp.lists_le (A := X.A) (s := s) (e := fun j => decide (ns.getD j 0 = ms.getD j 0)) (r := fun j => (fun i j => decide (i ≤ j)) (ns.getD j 0) (ms.getD j 0)) p1.isList p2.isList hu (fun j h1 h2 => by
    obtain ⟨t, et⟩ := at1 j h1
    obtain ⟨t', et'⟩ := at2 j h2
    rw [et, et']
    have z : (ns.getD j 0 == ms.getD j 0) = decide (ns.getD j 0 = ms.getD j 0) := by
      by_cases q : ns.getD j 0 = ms.getD j 0
      · rw [decide_eq_true q]; exact beq_iff_eq.mpr q
      · rw [decide_eq_false q]; exact beq_eq_false_iff_ne.mpr q
    rw [← z]
    exact SeqAt.EqAt.int_int _ _ _ _) (fun j h1 h2 _ => by
    obtain ⟨t, et⟩ := at1 j h1
    obtain ⟨t', et'⟩ := at2 j h2
    rw [et, et']
    exact fun _ _ _ _ h => PyProof.Rows.le_int h)
  rw [e1, e2, List.range_eq_range', firstLt_at] at R
  rw [← lexAt_O (fun i j => decide (i ≤ j)) (fun n m => decide (n ≤ m)) (by decide) (by simp) (by simp) (by simp)] at q
  exact R X.prog X.w X.xe (EP X pins σ Q) ⟨.bl _, H, I, rfl, q⟩
end G
namespace G
open PySem PySem.Spec PyProof.Rows L2
variable [Tb]
section
variable {K : PySem.W.Frag}
/-- the shape of data from the shape of the value -/
theorem bnd {α : Type} {o : Option α} {f : α → R} {r : R} (h : o.map f = some r) : ∃ a, o = some a ∧ f a = r := by
  cases o with
  | none => cases h
  | some a => exact ⟨a, rfl, Option.some.inj h⟩
theorem SqT.up {M H : Hp} {a : Addr} {vs : List V} (e : Same M H) (h : GT.SqN K M a vs) : SqT K H a vs := Same.sqt e h.t
theorem SZ_le {n : Nat} (h : n ≤ SZ) : n ≤ sizeLine := by rw [sizeLine_eq]; exact h
theorem ok_add : Ok2 K (fun x y H Q => rI0 (fun i j => .int (i + j)) x y H Q ∨ (∃ i j, x = .str i ∧ y = .str j ∧ i.length + j.length ≤ sizeLine ∧ Q (.str (i ++ j)) H) ∨ GT.rCatN K x y H Q ∨ rCat x y H Q) pAdd := by
  intro M H d e v u res Q sm rd re q k
  cases d <;> cases e <;> simp only [pAdd] at q <;> try cases q
  · rename_i i j
    simp only [RepT] at rd re
    exact .inl ⟨i, j, rd, re, PR.val0 sm k (by simp [Rep])⟩
  · rename_i i j
    simp only [RepT] at rd re
    split at q <;> try cases q
    rename_i hz
    exact .inr (.inl ⟨i, j, rd, re, SZ_le hz, PR.val0 sm k (by simp [Rep])⟩)
  · rename_i xs ys
    split at q <;> try cases q
    rename_i hz
    obtain ⟨a, vs, rfl, h1, h2⟩ := rd
    obtain ⟨b, ws, rfl, h3, h4⟩ := re
    refine .inr (.inr (.inl ⟨a, b, vs, ws, rfl, rfl, SqT.up sm h1, SqT.up sm h3, ?_, fun z => ?_, fun _ z => ?_, fun _ _ => ?_⟩))
    · rw [← h2.length, ← h4.length]; exact SZ_le hz
    · have e0 : xs = [] := List.length_eq_zero_iff.mp (by have := h2.length; rw [z] at this; exact this)
      subst e0
      refine PR.val0 sm k ?_
      simp only [Rep, List.nil_append]
      exact ⟨b, ws, rfl, h3, h4⟩
    · have e0 : ys = [] := List.length_eq_zero_iff.mp (by have := h4.length; rw [z] at this; exact this)
      subst e0
      refine PR.val0 sm k ?_
      simp only [Rep, List.append_nil]
      exact ⟨a, vs, rfl, h1, h2⟩
    · exact PR.tup sm k (h2.append h4)
  · rename_i xs ys
    split at q <;> try cases q
    rename_i hz
    obtain ⟨a, vs, rfl, h1, h2⟩ := rd
    obtain ⟨b, ws, rfl, h3, h4⟩ := re
    refine .inr (.inr (.inr ⟨a, b, vs, ws, rfl, rfl, h1, h3, ?_, fun p np => PR.lst sm k (h2.append h4) np⟩))
    rw [← h2.length, ← h4.length]; exact SZ_le hz
theorem ok_sub : Ok2 K (rI0 fun i j => .int (i - j)) pSub := by
  intro M H d e v u res Q sm rd re q k
  cases d <;> cases e <;> simp only [pSub] at q <;> try cases q
  simp only [RepT] at rd re
  exact ⟨_, _, rd, re, PR.val0 sm k (by simp [Rep])⟩
/-- a text times an int -/
def rMulS : R2 := fun x y H Q => ∃ (z : Str) (k : Int), x = .str z ∧ y = .int k ∧ (z.length ≤ 16 ∧ -(2 ^ 63) ≤ k ∧ k ≤ 1000000) ∧ Q (.str (Txt.mul z k)) H
theorem op_mulS {X : Cx} : OpR X (binaryOp .Mult) rMulS := by
  intro pins s σ H x y v u Q I rx ry h
  obtain ⟨z, k, rfl, rfl, ⟨h1, h2, h3⟩, q⟩ := h
  obtain ⟨t, rfl⟩ := rx
  obtain ⟨t', rfl⟩ := ry
  exact SB.mul (mulOk_of 16 1000000 h1 h3 h2 (by decide) (by decide)) fun t2 k2 => ⟨.str (Txt.mul z k), H, I.tok _, ⟨_, rfl⟩, q⟩
theorem ok_mul : Ok2 K (fun x y H Q => rI CMul (fun i j => .int (i * j)) x y H Q ∨ rRep x y H Q ∨ rMulS x y H Q) pMul := by
  intro M H d e v u res Q sm rd re q k
  cases d <;> cases e <;> simp only [pMul] at q <;> try cases q
  · split at q <;> try cases q
    rename_i hz
    simp only [RepT] at rd re
    exact .inl ⟨_, _, rd, re, hz, PR.val0 sm k (by simp [Rep])⟩
  · split at q <;> try cases q
    rename_i hz
    simp only [RepT] at rd re
    exact .inr (.inr ⟨_, _, rd, re, hz, PR.val0 sm k (by simp [Rep])⟩)
  · split at q <;> try cases q
    rename_i xs n hz
    obtain ⟨a, vs, rfl, h1, h2⟩ := rd
    simp only [RepT] at re
    refine .inr (.inl ⟨a, n, vs, rfl, re, h1, hz.1, hz.2.1, ?_, fun p np => PR.lst sm k ?_ np⟩)
    · rw [← h2.length]; exact SZ_le hz.2.2
    · generalize n.toNat = m
      induction m with
      | zero => simp [Reps]
      | succ m ih =>
        rw [List.replicate_succ, List.replicate_succ, List.flatten_cons, List.flatten_cons]
        exact h2.append ih
theorem ok_fdiv : Ok2 K (rI CDiv fun i j => .int (i / j)) pFdiv := by
  intro M H d e v u res Q sm rd re q k
  cases d <;> cases e <;> simp only [pFdiv] at q <;> try cases q
  split at q <;> try cases q
  rename_i hz
  simp only [RepT] at rd re
  exact ⟨_, _, rd, re, hz, PR.val0 sm k (by simp [Rep])⟩
theorem ok_mod : Ok2 K (rI (fun _ j => 0 < j) fun i j => .int (i % j)) pMod := by
  intro M H d e v u res Q sm rd re q k
  cases d <;> cases e <;> simp only [pMod] at q <;> try cases q
  split at q <;> try cases q
  rename_i hz
  simp only [RepT] at rd re
  exact ⟨_, _, rd, re, hz, PR.val0 sm k (by simp [Rep])⟩
theorem ok_pow : Ok2 K (rI CPow fun i j => .int (i ^ j.toNat)) pPow := by
  intro M H d e v u res Q sm rd re q k
  cases d <;> cases e <;> simp only [pPow] at q <;> try cases q
  split at q <;> try cases q
  rename_i hz
  simp only [RepT] at rd re
  exact ⟨_, _, rd, re, hz, PR.val0 sm k (by simp [Rep])⟩
theorem deq_ok {M H : Hp} {d e : D} {v u : V} {b : Bool} (rd : RepT K M H d v) (re : RepT K M H e u) (h : deq d e = some b) : scal v u = true ∧ decide (v = u) = b := by
  cases d <;> cases e <;> simp only [deq] at h <;> try cases h
  all_goals (simp only [RepT] at rd re; subst rd; subst re)
  all_goals first
    | exact ⟨rfl, by simp⟩
    | exact ⟨rfl, rfl⟩
mutual
theorem dp_rep {M H : Hp} (sm : Same M H) : ∀ {d : D} {v : V} {x : PyData}, Rep K M d v → toPy d = some x → Dp K H v x
  | .non, v, x, r, e => by simp only [Rep] at r; subst r; cases e; exact .non
  | .bl b, v, x, r, e => by simp only [Rep] at r; subst r; cases e; exact .bl b
  | .int i, v, x, r, e => by simp only [Rep] at r; subst r; cases e; exact .int i
  | .str z, v, x, r, e => by simp only [Rep] at r; subst r; cases e; exact .str z
  | .tup xs, v, x, r, e => by
    simp only [Rep] at r
    obtain ⟨a, vs, rfl, h1, h2⟩ := r
    rw [toPy] at e
    cases q : toPys xs with
    | none => rw [q] at e; cases e
    | some ys => rw [q] at e; cases e; exact .tup (SqT.up sm h1) (dp_reps sm h2 q)
  | .lst xs, v, x, r, e => by
    simp only [Rep] at r
    obtain ⟨a, vs, rfl, h1, h2⟩ := r
    rw [toPy] at e
    cases q : toPys xs with
    | none => rw [q] at e; cases e
    | some ys => rw [q] at e; cases e; exact .lst (SqL.of (sm _ _ h1)) (dp_reps sm h2 q)
  | .scr ns, v, x, r, e => by rw [toPy] at e; cases e
  | .dct _ _, v, x, r, e => by rw [toPy] at e; cases e
theorem dp_reps {M H : Hp} (sm : Same M H) : ∀ {ds : List D} {vs : List V} {xs : List PyData}, Reps K M ds vs → toPys ds = some xs → DpAll K H vs xs
  | [], vs, xs, r, e => by simp only [Reps] at r; subst r; rw [toPys] at e; cases e; exact .nil
  | d :: ds, vs, xs, r, e => by
    simp only [Reps] at r
    obtain ⟨v, vs', rfl, h1, h2⟩ := r
    rw [toPys] at e
    cases q : toPy d with
    | none => rw [q] at e; cases e
    | some x =>
      cases q2 : toPys ds with
      | none => rw [q, q2] at e; cases e
      | some ys => rw [q, q2] at e; cases e; exact .cons (dp_rep sm h1 q) (dp_reps sm h2 q2)
end
theorem dp_top {M H : Hp} (sm : Same M H) {d : D} {v : V} {x : PyData} (r : RepT K M H d v) (e : toPy d = some x) : Dp K H v x := by
  cases d with
  | lst xs =>
    obtain ⟨a, vs, rfl, h1, h2⟩ := r
    rw [toPy] at e
    cases q : toPys xs with
    | none => rw [q] at e; cases e
    | some ys => rw [q] at e; cases e; exact .lst (SqL.of h1) (dp_reps sm h2 q)
  | tup xs => exact dp_rep sm (by simpa only [Rep, RepT] using r) e
  | non => exact dp_rep sm (by simpa only [Rep, RepT] using r) e
  | bl b => exact dp_rep sm (by simpa only [Rep, RepT] using r) e
  | int i => exact dp_rep sm (by simpa only [Rep, RepT] using r) e
  | str z => exact dp_rep sm (by simpa only [Rep, RepT] using r) e
  | scr ns => rw [toPy] at e; cases e
  | dct ks ds => rw [toPy] at e; cases e
mutual
theorem py_plain : ∀ {d : D} {x : PyData}, toPy d = some x → x.plain = true
  | .non, x, e => by cases e; rfl
  | .bl b, x, e => by cases e; rfl
  | .int i, x, e => by cases e; rfl
  | .str z, x, e => by cases e; rfl
  | .tup xs, x, e => by
    rw [toPy] at e
    cases q : toPys xs with
    | none => rw [q] at e; cases e
    | some ys => rw [q] at e; cases e; exact pys_plain q
  | .lst xs, x, e => by
    rw [toPy] at e
    cases q : toPys xs with
    | none => rw [q] at e; cases e
    | some ys => rw [q] at e; cases e; exact pys_plain q
  | .scr ns, x, e => by rw [toPy] at e; cases e
theorem pys_plain : ∀ {ds : List D} {xs : List PyData}, toPys ds = some xs → PyData.plainAll xs = true
  | [], xs, e => by rw [toPys] at e; cases e; rfl
  | d :: ds, xs, e => by
    rw [toPys] at e
    cases q : toPy d with
    | none => rw [q] at e; cases e
    | some x =>
      cases q2 : toPys ds with
      | none => rw [q, q2] at e; cases e
      | some ys => rw [q, q2] at e; cases e; simp only [PyData.plainAll, py_plain q, pys_plain q2, Bool.and_self]
end
theorem deqD_ok {M H : Hp} (sm : Same M H) {d e : D} {v u : V} {k : Bool} (rd : RepT K M H d v) (re : RepT K M H e u) (h : deqD d e = some k) : ∃ x y, Dp K H v x ∧ Dp K H u y ∧ x.plain = true ∧ y.plain = true ∧ x.depth ≤ 64 ∧ k = PyData.eqv x y := by
  unfold deqD at h
  cases q : toPy d with
  | none => rw [q] at h; cases h
  | some x =>
    cases q2 : toPy e with
    | none => rw [q, q2] at h; cases h
    | some y =>
      rw [q, q2] at h
      simp only at h
      split at h
      · rename_i c
        exact ⟨x, y, dp_top sm rd q, dp_top sm re q2, py_plain q, py_plain q2, c, (Option.some.inj h).symm⟩
      · cases h
def rEqP (K : PySem.W.Frag) : R2 := fun x y H Q => ∃ d e, Dp K H x d ∧ Dp K H y e ∧ d.plain = true ∧ e.plain = true ∧ d.depth ≤ 64 ∧ Q (.bl (PyData.eqv d e)) H
def rNeP (K : PySem.W.Frag) : R2 := fun x y H Q => ∃ d e, Dp K H x d ∧ Dp K H y e ∧ d.plain = true ∧ e.plain = true ∧ d.depth ≤ 64 ∧ Q (.bl (!PyData.eqv d e)) H
theorem op_eqP {X : Cx} (hu : X.A.units + 64 < cLine) : OpR X (compareOp .Eq) (rEqP X.K) := by
  intro pins s σ H x y v u Q I rx ry h
  obtain ⟨d, e, hd, he, pd, pe, hz, q⟩ := h
  obtain ⟨as, r1⟩ := Dp.reads I d x v hd rx
  obtain ⟨bs, r2⟩ := Dp.reads I e y u he ry
  exact SeqAt.eq_plain r1 r2 pd pe (by have := Nat.min_le_left d.depth e.depth; omega) ⟨.bl _, H, I, rfl, q⟩
theorem op_neP {X : Cx} (hu : X.A.units + 64 < cLine) : OpR X (compareOp .NotEq) (rNeP X.K) := by
  intro pins s σ H x y v u Q I rx ry h
  obtain ⟨d, e, hd, he, pd, pe, hz, q⟩ := h
  obtain ⟨as, r1⟩ := Dp.reads I d x v hd rx
  obtain ⟨bs, r2⟩ := Dp.reads I e y u he ry
  exact SeqAt.ne_plain r1 r2 pd pe (by have := Nat.min_le_left d.depth e.depth; omega) ⟨.bl _, H, I, rfl, q⟩
/-- in, of deep things -/
def rInP (K : PySem.W.Frag) (neg : Bool) : R2 := fun x y H Q => ∃ d ds, Dp K H x d ∧ (Dp K H y (.list ds) ∨ Dp K H y (.tuple ds)) ∧ d.plain = true ∧ PyData.plainAll ds = true ∧ d.depth ≤ 63 ∧ Q (.bl (if neg = true then !(ds.any fun z => PyData.eqv z d) else ds.any fun z => PyData.eqv z d)) H
theorem op_inP {X : Cx} (hu : X.A.units + 64 < cLine) : OpR X (compareOp .In) (rInP X.K false) := by
  intro pins s σ H x y v u Q I rx ry h
  obtain ⟨d, ds, hd, he, pd, pe, hz, q⟩ := h
  obtain ⟨as, r1⟩ := Dp.reads I d x v hd rx
  have hm : X.A.units + 1 + min (PyData.depthAll ds) d.depth < cLine := by have := Nat.min_le_right (PyData.depthAll ds) d.depth; omega
  rcases he with he | he
  · obtain ⟨bs, r2⟩ := Dp.reads I _ y u he ry
    exact SeqAt.in_list_data r2 r1 pe pd hm ⟨.bl _, H, I, rfl, q⟩
  · obtain ⟨bs, r2⟩ := Dp.reads I _ y u he ry
    exact SeqAt.in_tuple_data r2 r1 pe pd hm ⟨.bl _, H, I, rfl, q⟩
theorem op_ninP {X : Cx} (hu : X.A.units + 64 < cLine) : OpR X (compareOp .NotIn) (rInP X.K true) := by
  intro pins s σ H x y v u Q I rx ry h
  obtain ⟨d, ds, hd, he, pd, pe, hz, q⟩ := h
  obtain ⟨as, r1⟩ := Dp.reads I d x v hd rx
  have hm : X.A.units + 1 + min (PyData.depthAll ds) d.depth < cLine := by have := Nat.min_le_right (PyData.depthAll ds) d.depth; omega
  rcases he with he | he
  · obtain ⟨bs, r2⟩ := Dp.reads I _ y u he ry
    exact SeqAt.notIn_list_data r2 r1 pe pd hm ⟨.bl _, H, I, rfl, q⟩
  · obtain ⟨bs, r2⟩ := Dp.reads I _ y u he ry
    exact SeqAt.notIn_tuple_data r2 r1 pe pd hm ⟨.bl _, H, I, rfl, q⟩
theorem ok_inD {neg : Bool} {M H : Hp} (sm : Same M H) {d : D} {xs : List D} {v u : V} {res : R} (rd : RepT K M H d v) (re : ∀ ys, toPys xs = some ys → Dp K H u (.list ys) ∨ Dp K H u (.tuple ys)) (q : pInD neg d xs = some res) : ∃ x ys, Dp K H v x ∧ (Dp K H u (.list ys) ∨ Dp K H u (.tuple ys)) ∧ x.plain = true ∧ PyData.plainAll ys = true ∧ x.depth ≤ 63 ∧ res = .val (.bl (if neg = true then !(ys.any fun z => PyData.eqv z x) else ys.any fun z => PyData.eqv z x)) := by
  unfold pInD at q
  cases q1 : toPy d with
  | none => rw [q1] at q; cases q
  | some x =>
    cases q2 : toPys xs with
    | none => rw [q1, q2] at q; cases q
    | some ys =>
      rw [q1, q2] at q
      simp only at q
      split at q
      · rename_i c
        exact ⟨x, ys, dp_top sm rd q1, re ys q2, py_plain q1, pys_plain q2, c, (Option.some.inj q).symm⟩
      · cases q
theorem ok_eq : Ok2 K (fun x y H Q => rEq x y H Q ∨ rEqP K x y H Q) (p2 .eq) := by
  intro M H d e v u res Q sm rd re q k
  obtain ⟨b, h1, h2⟩ := bnd q
  subst h2
  unfold eqD at h1
  cases h0 : deq d e with
  | some b' =>
    rw [h0] at h1
    cases h1
    obtain ⟨h3, h4⟩ := deq_ok rd re h0
    refine .inl ⟨h3, ?_⟩
    rw [h4]
    exact PR.val0 sm k (by simp [Rep])
  | none =>
    rw [h0] at h1
    obtain ⟨x, y, a1, a2, a3, a4, a5, rfl⟩ := deqD_ok sm rd re h1
    exact .inr ⟨x, y, a1, a2, a3, a4, a5, PR.val0 sm k (by simp [Rep])⟩
theorem ok_ne : Ok2 K (fun x y H Q => rNe x y H Q ∨ rNeP K x y H Q) (p2 .ne) := by
  intro M H d e v u res Q sm rd re q k
  obtain ⟨b, h1, h2⟩ := bnd q
  subst h2
  unfold eqD at h1
  cases h0 : deq d e with
  | some b' =>
    rw [h0] at h1
    cases h1
    obtain ⟨h3, h4⟩ := deq_ok rd re h0
    refine .inl ⟨h3, ?_⟩
    rw [h4]
    exact PR.val0 sm k (by simp [Rep])
  | none =>
    rw [h0] at h1
    obtain ⟨x, y, a1, a2, a3, a4, a5, rfl⟩ := deqD_ok sm rd re h1
    exact .inr ⟨x, y, a1, a2, a3, a4, a5, PR.val0 sm k (by simp [Rep])⟩
theorem atI_reps {M : Hp} {ds : List D} {vs : List V} {i : Int} {d : D} (h : Reps K M ds vs) (e : atI ds i = some d) : ∃ v, atI vs i = some v ∧ Rep K M d v := by
  unfold atI at e ⊢
  rw [← h.length]
  cases q : ixN ds.length i with
  | none => rw [q] at e; cases e
  | some j =>
    rw [q] at e
    exact h.get e
theorem ok_ix : Ok2 K (rIx K) pIx := by
  intro M H d e v u res Q sm rd re q k
  cases d <;> cases e <;> simp only [pIx] at q <;> try cases q
  · split at q <;> try cases q
    rename_i z i hz
    obtain ⟨c, h1, h2⟩ := bnd q
    subst h2
    simp only [RepT] at rd re
    exact .inr (.inr ⟨z, i, c, rd, re, SZ_le hz, h1, PR.val0 sm k (by simp [Rep])⟩)
  · rename_i xs i
    obtain ⟨c, h1, h2⟩ := bnd q
    subst h2
    obtain ⟨a, vs, rfl, h3, h4⟩ := rd
    simp only [RepT] at re
    obtain ⟨w, h5, h6⟩ := atI_reps h4 h1
    exact .inr (.inl ⟨a, vs, i, w, rfl, re, SqT.up sm h3, h5, PR.val0 sm k h6⟩)
  · rename_i xs i
    obtain ⟨c, h1, h2⟩ := bnd q
    subst h2
    obtain ⟨a, vs, rfl, h3, h4⟩ := rd
    simp only [RepT] at re
    obtain ⟨w, h5, h6⟩ := atI_reps h4 h1
    exact .inl ⟨a, vs, i, w, rfl, re, SqL.of h3, h5, PR.val0 sm k h6⟩
theorem ok_max : Ok2 K (fun x y H Q => ∃ i j, [x, y] = [V.int i, V.int j] ∧ Q (.int (if j > i then j else i)) H) pMax := by
  intro M H d e v u res Q sm rd re q k
  cases d <;> cases e <;> simp only [pMax] at q <;> try cases q
  simp only [RepT] at rd re
  subst rd; subst re
  exact ⟨_, _, rfl, PR.val0 sm k (by simp [Rep])⟩
theorem intsD_ok {M : Hp} : ∀ {ds : List D} {vs : List V} {ns : List Int}, Reps K M ds vs → intsD ds = some ns → vs = ns.map V.int
  | [], vs, ns, h, e => by
    simp only [Reps] at h; subst h
    simp only [intsD, Option.some.injEq] at e; subst e; rfl
  | d :: ds, vs, ns, h, e => by
    simp only [Reps] at h
    obtain ⟨v, vs', rfl, h1, h2⟩ := h
    cases d <;> simp only [intsD] at e <;> try cases e
    rename_i i
    cases q : intsD ds with
    | none => rw [q] at e; cases e
    | some ms =>
      rw [q] at e
      cases e
      simp only [Rep] at h1
      rw [h1, intsD_ok h2 q]
      rfl
theorem strsD_ok {M : Hp} : ∀ {ds : List D} {vs : List V} {ns : List Str}, Reps K M ds vs → strsD ds = some ns → vs = ns.map V.str
  | [], vs, ns, h, e => by
    simp only [Reps] at h; subst h
    simp only [strsD, Option.some.injEq] at e; subst e; rfl
  | d :: ds, vs, ns, h, e => by
    simp only [Reps] at h
    obtain ⟨v, vs', rfl, h1, h2⟩ := h
    cases d <;> simp only [strsD] at e <;> try cases e
    rename_i i
    cases q : strsD ds with
    | none => rw [q] at e; cases e
    | some ms =>
      rw [q] at e
      cases e
      simp only [Rep] at h1
      rw [h1, strsD_ok h2 q]
      rfl
theorem blsD_ok {M : Hp} : ∀ {ds : List D} {vs : List V} {ns : List Bool}, Reps K M ds vs → blsD ds = some ns → vs = ns.map V.bl
  | [], vs, ns, h, e => by
    simp only [Reps] at h; subst h
    simp only [blsD, Option.some.injEq] at e; subst e; rfl
  | d :: ds, vs, ns, h, e => by
    simp only [Reps] at h
    obtain ⟨v, vs', rfl, h1, h2⟩ := h
    cases d <;> simp only [blsD] at e <;> try cases e
    rename_i i
    cases q : blsD ds with
    | none => rw [q] at e; cases e
    | some ms =>
      rw [q] at e
      cases e
      simp only [Rep] at h1
      rw [h1, blsD_ok h2 q]
      rfl
/-! one operand -/
theorem ok_neg : Ok1 K (rU fun i => .int (-i)) (p1 .neg) := by
  intro M H d v res Q sm rd q k
  cases d <;> simp only [p1] at q <;> try cases q
  simp only [RepT] at rd
  exact ⟨_, rd, PR.val0 sm k (by simp [Rep])⟩
theorem ok_len : Ok1 K (fun v H Q => ∃ x n, [v] = [x] ∧ LenV K x H n ∧ Q (.int n) H) (p1 .len) := by
  intro M H d v res Q sm rd q k
  cases d <;> simp only [p1, pLen] at q <;> try cases q
  · split at q <;> try cases q
    rename_i z hz
    simp only [RepT] at rd
    subst rd
    exact ⟨_, z.length, rfl, ⟨SZ_le hz, rfl⟩, PR.val0 sm k (by simp [Rep])⟩
  · rename_i xs
    obtain ⟨a, vs, rfl, h1, h2⟩ := rd
    exact ⟨_, vs.length, rfl, .inr ⟨vs, SqT.up sm h1, rfl⟩, PR.val0 sm k (by simp [Rep, h2.length])⟩
  · rename_i xs
    obtain ⟨a, vs, rfl, h1, h2⟩ := rd
    exact ⟨_, vs.length, rfl, .inl ⟨vs, SqL.of h1, rfl⟩, PR.val0 sm k (by simp [Rep, h2.length])⟩
  · rename_i ns
    obtain ⟨a, rfl, h1⟩ := rd
    exact ⟨_, ns.length, rfl, .inl ⟨_, sm.seq h1, by simp⟩, PR.val0 sm k (by simp [Rep])⟩
theorem ok_abs : Ok1 K (fun v H Q => ∃ i, [v] = [V.int i] ∧ Q (.int (if i < 0 then -i else i)) H) (p1 .abs) := by
  intro M H d v res Q sm rd q k
  cases d <;> simp only [p1] at q <;> try cases q
  simp only [RepT] at rd
  subst rd
  exact ⟨_, rfl, PR.val0 sm k (by simp [Rep])⟩
theorem ok_int : Ok1 K (fun v H Q => ((∃ i, [v] = [V.int i] ∧ Q (.int i) H) ∨ ∃ k, [v] = [V.bl k] ∧ Q (.int (if k then 1 else 0)) H) ∨ ∃ a n, [v] = [V.str a] ∧ PySem.intText? a = some n ∧ a.length ≤ 640 ∧ Q (.int n) H) (p1 .int) := by
  intro M H d v res Q sm rd q k
  cases d <;> simp only [p1] at q <;> try cases q
  · simp only [RepT] at rd
    subst rd
    exact .inl (.inr ⟨_, rfl, PR.val0 sm k (by simp [Rep])⟩)
  · simp only [RepT] at rd
    subst rd
    exact .inl (.inl ⟨_, rfl, PR.val0 sm k (by simp [Rep])⟩)
  · rename_i z
    split at q <;> try (cases q; done)
    rename_i hz
    cases e : PySem.intText? z with
    | none => rw [e] at q; cases q
    | some n =>
      rw [e] at q
      cases q
      simp only [RepT] at rd
      subst rd
      exact .inr ⟨z, n, rfl, e, hz, PR.val0 sm k (by simp [Rep])⟩
theorem ok_tupl : Ok1 K (fun v H Q => ∃ p ys, [v] = [V.ref p] ∧ ((SqL K H p ys ∧ GT.MkT H ys Q) ∨ (SqT K H p ys ∧ Q (.ref p) H))) (p1 .tupl) := by
  intro M H d v res Q sm rd q k
  cases d <;> simp only [p1, pTupl] at q <;> try cases q
  · obtain ⟨a, vs, rfl, h1, h2⟩ := rd
    exact ⟨a, vs, rfl, .inr ⟨SqT.up sm h1, PR.val0 sm k (by simp only [Rep]; exact ⟨a, vs, rfl, h1, h2⟩)⟩⟩
  · obtain ⟨a, vs, rfl, h1, h2⟩ := rd
    exact ⟨a, vs, rfl, .inl ⟨SqL.of h1, PR.tup sm k h2⟩⟩
theorem Reps.of_signs {M : Hp} : ∀ {cs : List Nat}, Reps K M (cs.map fun c => D.str ⟨#[c]⟩) (cs.map fun c => V.str ⟨#[c]⟩)
  | [] => by simp [Reps]
  | n :: ns => by
    simp only [List.map_cons, Reps]
    exact ⟨_, _, rfl, by simp [Rep], Reps.of_signs⟩
def rListS (K : PySem.W.Frag) : List V → Hp → VK → Prop := fun vs H Q => ∃ z : Str, vs = [V.str z] ∧ z.length ≤ sizeLine ∧ ∀ l, H l = none → Q (.ref l) (upd H l (.lst (z.cps.toList.map fun c => V.str ⟨#[c]⟩)))
theorem cr_listS {X : Cx} (hc : X.calm = true) : CallR X (.type "list") (rListS X.K) := by
  intro pins s σ H xs us Q I r h
  obtain ⟨z, rfl, hz, q⟩ := h
  obtain ⟨u, rfl, t, rfl⟩ := vals1 r
  refine call_list_str (I.ok.hd hc) z t (fun h' tk acc c' kp e hi => ?_) hz
  have hl : acc.toList.length = z.cps.size := by rw [Array.length_toList]; exact hi.1
  have rv : Vals (z.cps.toList.map fun c => V.str ⟨#[c]⟩) acc.toList := by
    have e : (z.cps.toList.map fun c => V.str ⟨#[c]⟩) = (List.range acc.toList.length).map fun j => V.str ⟨#[z.cps.toList.getD j 0]⟩ := by
      refine List.ext_getElem (by simp [hl, hi.1]) fun j h1 h2 => ?_
      simp only [List.length_map] at h1
      simp [List.getD_eq_getElem?_getD, List.getElem?_eq_getElem h1]
      first | rfl | (rw [Array.getElem?_eq_getElem (by simpa using h1)]; rfl)
    rw [e]
    refine vals_of_get acc.toList _ fun j u hj => ?_
    obtain ⟨c, t, hc, rfl⟩ := hi.2 j u (by rw [← hj, Array.getElem?_toList])
    refine ⟨t, ?_⟩
    have : z.cps.toList.getD j 0 = c := by rw [List.getD_eq_getElem?_getD, Array.getElem?_toList, hc]; rfl
    rw [this]
  refine ⟨.ref s.heap.objs.size, _, I.laid (t' := tk) kp (Nat.le_refl _) (show ObjOk X.prog X.w _ h' _ (.lst _) from ⟨by rw [List.length_map, Array.length_toList]; exact hz, acc.toList, c', rv, ?_⟩), rfl, q _ (I.hok.fresh (Nat.le_refl _))⟩
  rw [e]
theorem ok_list : Ok1 K (fun v H Q => (∃ p ys, [v] = [V.ref p] ∧ (SqL K H p ys ∨ SqT K H p ys) ∧ ∀ l, H l = none → Q (.ref l) (upd H l (.lst ys))) ∨ rListS K [v] H Q) (p1 .list) := by
  intro M H d v res Q sm rd q k
  cases d <;> simp only [p1, pList] at q <;> try cases q
  · rename_i z
    split at q <;> try (cases q; done)
    rename_i hz
    cases q
    simp only [RepT] at rd
    subst rd
    exact .inr ⟨z, rfl, SZ_le hz, fun l nl => PR.lst sm k Reps.of_signs nl⟩
  · obtain ⟨a, vs, rfl, h1, h2⟩ := rd
    exact .inl ⟨a, vs, rfl, .inr (SqT.up sm h1), fun l nl => PR.lst sm k h2 nl⟩
  · obtain ⟨a, vs, rfl, h1, h2⟩ := rd
    exact .inl ⟨a, vs, rfl, .inl (SqL.of h1), fun l nl => PR.lst sm k h2 nl⟩
  · obtain ⟨a, rfl, h1⟩ := rd
    exact .inl ⟨a, _, rfl, .inl (sm.seq h1), fun l nl => PR.lst sm k Reps.of_ints nl⟩
theorem ok_truth : Ok1 K (fun v H Q => ∃ k, TruV K v H k ∧ Q (.bl k) H) (p1 .truth) := by
  intro M H d v res Q sm rd q k
  cases d <;> simp only [p1] at q <;> try cases q
  · simp only [RepT] at rd; subst rd
    exact ⟨false, rfl, PR.val0 sm k (by simp [Rep])⟩
  · simp only [RepT] at rd; subst rd
    exact ⟨_, rfl, PR.val0 sm k (by simp [Rep])⟩
  · simp only [RepT] at rd; subst rd
    exact ⟨_, rfl, PR.val0 sm k (by simp [Rep])⟩
  · split at q <;> try cases q
    rename_i z hz
    simp only [RepT] at rd; subst rd
    exact ⟨_, ⟨SZ_le hz, rfl⟩, PR.val0 sm k (by simp [Rep])⟩
  · obtain ⟨a, vs, rfl, h1, h2⟩ := rd
    refine ⟨_, .inr (.inl ⟨vs, SqT.up sm h1, rfl⟩), PR.val0 sm k ?_⟩
    simp [Rep, h2.isEmpty]
  · obtain ⟨a, vs, rfl, h1, h2⟩ := rd
    refine ⟨_, .inl ⟨vs, SqL.of h1, rfl⟩, PR.val0 sm k ?_⟩
    simp [Rep, h2.isEmpty]
theorem ok_isN : Ok1 K (fun v H Q => Q (.bl (decide (v = .non))) H) (p1 .isN) := by
  intro M H d v res Q sm rd q k
  cases d <;> simp only [p1] at q <;> cases q <;> first
    | (simp only [RepT] at rd; subst rd; exact PR.val0 sm k (by simp [Rep]))
    | (obtain ⟨a, vs, rfl, _⟩ := rd; exact PR.val0 sm k (by simp [Rep]))
    | (obtain ⟨a, rfl, _⟩ := rd; exact PR.val0 sm k (by simp [Rep]))
theorem ok_notN : Ok1 K (fun v H Q => Q (.bl (!decide (v = .non))) H) (p1 .notN) := by
  intro M H d v res Q sm rd q k
  cases d <;> simp only [p1] at q <;> cases q <;> first
    | (simp only [RepT] at rd; subst rd; exact PR.val0 sm k (by simp [Rep]))
    | (obtain ⟨a, vs, rfl, _⟩ := rd; exact PR.val0 sm k (by simp [Rep]))
    | (obtain ⟨a, rfl, _⟩ := rd; exact PR.val0 sm k (by simp [Rep]))
/-- sum of a tuple of ints -/
def rSumT (K : PySem.W.Frag) : List V → Hp → VK → Prop := fun vs H Q => ∃ (a : Addr) (ns : List Int), vs = [V.ref a] ∧ SqT K H a (ns.map V.int) ∧ Q (.int ns.sum) H
theorem cr_sumT {X : Cx} (hc : X.calm = true) : CallR X (.builtin "sum") (rSumT X.K) := by
  intro pins s σ H vs us Q I r h
  obtain ⟨a, ns, rfl, hs, q⟩ := h
  obtain ⟨its, rv, ht, _⟩ := I.tuple hs
  rw [Vals.ref1 r]
  have hi : IntsAre its ns := rv.ints
  obtain ⟨xs, e⟩ := hi.allInts.items
  have hn : numsOf (intItems xs).toList = ns := by rw [← e]; exact hi.numsOf
  rw [nums_intItems] at hn
  rw [e] at ht
  refine PySem.W.ktm_sumG (I.ok.hd hc) ht fun h' tk t' hk => ?_
  rw [preSum_eq, List.take_of_length_le (by simp), hn]
  exact ⟨.int _, H, I.kept hk, ⟨_, rfl⟩, q⟩
theorem ok_sum : Ok1 K (fun v H Q => rSum K [v] H Q ∨ rSumT K [v] H Q) (p1 .sum) := by
  intro M H d v res Q sm rd q k
  cases d <;> simp only [p1] at q <;> try (cases q; done)
  · obtain ⟨a, vs, rfl, h1, h2⟩ := rd
    obtain ⟨ns, h3, h4⟩ := bnd q
    subst h4
    have e := intsD_ok h2 h3
    subst e
    exact .inr ⟨a, ns, rfl, SqT.up sm h1, PR.val0 sm k (by simp [Rep])⟩
  · obtain ⟨a, vs, rfl, h1, h2⟩ := rd
    obtain ⟨ns, h3, h4⟩ := bnd q
    subst h4
    have e := intsD_ok h2 h3
    subst e
    exact .inl ⟨a, ns, rfl, SqL.of h1, PR.val0 sm k (by simp [Rep])⟩
theorem ok_any : Ok1 K (fun v H Q => rAny K [v] H Q) (p1 .any) := by
  intro M H d v res Q sm rd q k
  cases d <;> simp only [p1] at q <;> try cases q
  obtain ⟨a, vs, rfl, h1, h2⟩ := rd
  obtain ⟨ns, h3, h4⟩ := bnd q
  subst h4
  have e := blsD_ok h2 h3
  subst e
  exact ⟨a, ns, rfl, SqL.of h1, PR.val0 sm k (by simp [Rep])⟩
theorem ok_all : Ok1 K (fun v H Q => rAll K [v] H Q) (p1 .all) := by
  intro M H d v res Q sm rd q k
  cases d <;> simp only [p1] at q <;> try cases q
  obtain ⟨a, vs, rfl, h1, h2⟩ := rd
  obtain ⟨ns, h3, h4⟩ := bnd q
  subst h4
  have e := blsD_ok h2 h3
  subst e
  exact ⟨a, ns, rfl, SqL.of h1, PR.val0 sm k (by simp [Rep])⟩
theorem ok_cmp (f : Int → Int → Bool) : Ok2 K (fun x y H Q => rI0 (fun i j => .bl (f i j)) x y H Q ∨ rLexO K f x y H Q) (pCmp f) := by
  intro M H d e v u res Q sm rd re q k
  cases d <;> cases e <;> simp only [pCmp] at q <;> try cases q
  · simp only [RepT] at rd re
    exact .inl ⟨_, _, rd, re, PR.val0 sm k (by simp [Rep])⟩
  · rename_i xs ys
    obtain ⟨a, vs, rfl, h1, h2⟩ := rd
    obtain ⟨b, ws, rfl, h3, h4⟩ := re
    cases q1 : intsD xs with
    | none => rw [q1] at q; cases q
    | some ns =>
      rw [q1] at q
      cases q2 : intsD ys with
      | none => rw [q2] at q; cases q
      | some ms =>
        rw [q2] at q
        cases q
        have e1 := intsD_ok h2 q1
        have e2 := intsD_ok h4 q2
        subst e1; subst e2
        exact .inr ⟨a, b, ns, ms, rfl, rfl, SqT.up sm h1, SqT.up sm h3, PR.val0 sm k (by simp [Rep])⟩
theorem ok_leL : Ok2 K (rLexL K (fun i j => decide (i ≤ j))) (p2 .leL) := by
  intro M H d e v u res Q sm rd re q k
  cases d <;> cases e <;> simp only [p2, pLeL] at q <;> try cases q
  rename_i xs ys
  obtain ⟨a, vs, rfl, h1, h2⟩ := rd
  obtain ⟨b, ws, rfl, h3, h4⟩ := re
  cases q1 : intsD xs with
  | none => rw [q1] at q; cases q
  | some ns =>
    rw [q1] at q
    cases q2 : intsD ys with
    | none => rw [q2] at q; cases q
    | some ms =>
      rw [q2] at q
      cases q
      have e1 := intsD_ok h2 q1
      have e2 := intsD_ok h4 q2
      subst e1; subst e2
      exact ⟨a, b, ns, ms, rfl, rfl, SqL.of h1, SqL.of h3, PR.val0 sm k (by simp [Rep])⟩
def isiName : Nat → String
  | 0 => "tuple" | 1 => "bool" | 2 => "str" | _ => "int"
theorem ok_isi (t : Nat) (ht : t < 4) : Ok1 K (fun v H Q => rIsi K [v, .ty (isiName t)] H Q) (p1 (.isi t)) := by
  intro M H d v res Q sm rd q k
  have go : ∀ (ty : String) (b : Bool), TyX K H v (.type ty) → kitB ty (isiName t) = some b → res = .val (.bl b) → rIsi K [v, .ty (isiName t)] H Q := fun ty b h1 h2 h3 => by
    subst h3
    exact ⟨_, _, _, _, b, rfl, .ty _, h1, kit_ty h2, PR.val0 sm k (by simp [Rep])⟩
  have tt : ∀ {a vs}, GT.SqN K M a vs → v = .ref a → TyX K H v (.type "tuple") := fun {a vs} h e => by
    subst e
    rcases h with ⟨o, h, _⟩ | ⟨o, its, n, h1, h2, _⟩
    · exact .fTuple (sm _ _ h)
    · exact .kTuple h1 h2
  rcases t with _ | _ | _ | _ | t
  · cases d <;> simp only [p1, pIsi] at q <;> cases q <;> first
      | (simp only [RepT] at rd; subst rd; first
          | exact go "NoneType" _ (.base .non) (by decide +kernel) rfl | exact go "bool" _ (.base (.bl _)) (by decide +kernel) rfl | exact go "int" _ (.base (.int _)) (by decide +kernel) rfl | exact go "str" _ (.base (.str _)) (by decide +kernel) rfl)
      | (obtain ⟨a, vs, e, h1, _⟩ := rd; first
          | exact go "tuple" _ (tt h1 e) (by decide +kernel) rfl
          | (subst e; exact go "list" _ (.base (.lst h1)) (by decide +kernel) rfl))
  · cases d <;> simp only [p1, pIsi] at q <;> cases q <;> first
      | (simp only [RepT] at rd; subst rd; first
          | exact go "NoneType" _ (.base .non) (by decide +kernel) rfl | exact go "bool" _ (.base (.bl _)) (by decide +kernel) rfl | exact go "int" _ (.base (.int _)) (by decide +kernel) rfl | exact go "str" _ (.base (.str _)) (by decide +kernel) rfl)
      | (obtain ⟨a, vs, e, h1, _⟩ := rd; first
          | exact go "tuple" _ (tt h1 e) (by decide +kernel) rfl
          | (subst e; exact go "list" _ (.base (.lst h1)) (by decide +kernel) rfl))
  · cases d <;> simp only [p1, pIsi] at q <;> cases q <;> first
      | (simp only [RepT] at rd; subst rd; first
          | exact go "NoneType" _ (.base .non) (by decide +kernel) rfl | exact go "bool" _ (.base (.bl _)) (by decide +kernel) rfl | exact go "int" _ (.base (.int _)) (by decide +kernel) rfl | exact go "str" _ (.base (.str _)) (by decide +kernel) rfl)
      | (obtain ⟨a, vs, e, h1, _⟩ := rd; first
          | exact go "tuple" _ (tt h1 e) (by decide +kernel) rfl
          | (subst e; exact go "list" _ (.base (.lst h1)) (by decide +kernel) rfl))
  · cases d <;> simp only [p1, pIsi] at q <;> cases q <;> first
      | (simp only [RepT] at rd; subst rd; first
          | exact go "NoneType" _ (.base .non) (by decide +kernel) rfl | exact go "bool" _ (.base (.bl _)) (by decide +kernel) rfl | exact go "int" _ (.base (.int _)) (by decide +kernel) rfl | exact go "str" _ (.base (.str _)) (by decide +kernel) rfl)
      | (obtain ⟨a, vs, e, h1, _⟩ := rd; first
          | exact go "tuple" _ (tt h1 e) (by decide +kernel) rfl
          | (subst e; exact go "list" _ (.base (.lst h1)) (by decide +kernel) rfl))
  · omega
end
end G
namespace G
open PySem PySem.Spec PyProof.Rows L2
variable [Tb]
section
variable {C : Cfg} {W : WX} {M H M1 H1 : Hp} {σ : L2.St} {nv nv1 : Nv} {Φ : Fn} {shs : Nat → Nat → Shape}
/-! ### argument lists -/
def OpdsR (K : PySem.W.Frag) (M : Hp) (σ : L2.St) : List (D ⊕ Nat) → List V → Prop
  | [], vs => vs = []
  | o :: os, vs => ∃ v vs', vs = v :: vs' ∧ OpdR K M σ o v ∧ OpdsR K M σ os vs'
theorem OpdsR.mono {K : PySem.W.Frag} {M M' : Hp} (e : Same M M') : ∀ {os : List (D ⊕ Nat)} {vs : List V}, OpdsR K M σ os vs → OpdsR K M' σ os vs
  | [], _, h => h
  | o :: os, _, h => by
    obtain ⟨v, vs', e1, e2, e3⟩ := h
    exact ⟨v, vs', e1, e2.mono e, OpdsR.mono e e3⟩
theorem OpdsR.length {K : PySem.W.Frag} {M : Hp} : ∀ {os : List (D ⊕ Nat)} {vs : List V}, OpdsR K M σ os vs → os.length = vs.length
  | [], _, h => by have h : _ = [] := h; subst h; rfl
  | o :: os, _, h => by
    obtain ⟨v, vs', rfl, e2, e3⟩ := h
    simp [OpdsR.length e3]
theorem OpdsR.inls {K : PySem.W.Frag} {M : Hp} : ∀ {os : List (D ⊕ Nat)} {vs : List V} {ds : List D}, OpdsR K M σ os vs → inls os = some ds → Reps K M ds vs
  | [], vs, ds, h, e => by
    have h : _ = [] := h; subst h
    simp only [G.inls, Option.some.injEq] at e; subst e; simp [Reps]
  | o :: os, vs, ds, h, e => by
    obtain ⟨v, vs', rfl, e2, e3⟩ := h
    cases o with
    | inl d =>
      simp only [G.inls] at e
      cases q : G.inls os with
      | none => rw [q] at e; cases e
      | some ds' =>
        rw [q] at e
        cases e
        simp only [Reps]
        exact ⟨v, vs', rfl, e2, OpdsR.inls e3 q⟩
    | inr i => cases e
def SndA (C : Cfg) (W : WX) (xs : List Expr) (f : Nv → Rs (List (D ⊕ Nat))) : Prop := ∀ M H σ nv Q, StR C.K M H σ nv → DoneX C W M H σ nv (f nv) (fun os nv' M' H' => ∀ vs, OpdsR C.K M' σ os vs → Q vs H') → tA C W xs σ H Q
def noStar : Expr → Bool
  | .Starred _ _ => false
  | _ => true
theorem star_cons {x : Expr} (h : noStar x = true) (xs : List Expr) (env : Env) : starEach (x :: xs) env = (false, eval x env) :: starEach xs env := by
  cases x <;> first | rfl | (cases h)
def noStars (xs : List Expr) : Bool := xs.all noStar
theorem noStars_cons {x : Expr} {xs : List Expr} (h : noStars (x :: xs) = true) : noStar x = true ∧ noStars xs = true := by
  simpa [noStars] using h
theorem plain_back : ∀ {xs : List Expr} {env : Env} {pos : Pos}, noStars xs = true → (backTo pos (starEach xs env)).any (·.1) = false
  | [], _, _, _ => rfl
  | x :: xs, env, pos, h => by
    obtain ⟨h1, h2⟩ := noStars_cons h
    have ih := plain_back (xs := xs) (env := env) (pos := pos) h2
    rw [star_cons h1]
    unfold backTo at ih ⊢
    simp only [List.map_cons, List.any_cons, Bool.false_or]
    exact ih
theorem few_back {xs : List Expr} {env : Env} {pos : Pos} (h : noStars xs = true) : (backTo pos (starEach xs env)).all (fun x => !x.1) = true := by
  have := plain_back (env := env) (pos := pos) h
  rw [List.any_eq_false] at this
  rw [List.all_eq_true]
  intro x hx
  have := this x hx
  simpa using this
theorem sndA_nil : SndA C W [] (evOs Φ shs []) := by
  intro M H σ nv Q st hd
  refine tA.by (fun X hX => pa_nil) ?_
  have hd' : ∀ M' H', Step M H (Own σ nv) M' H' (Own σ nv) → StR C.K M' H' σ nv → ∀ vs, OpdsR C.K M' σ [] vs → Q vs H' := hd
  exact hd' M H (Step.refl _ _ _) st [] rfl
theorem sndA_cons {x : Expr} {xs : List Expr} {e : E} {es : List E} (ns : noStar x = true) (he : (∃ i, e = .brw i ∧ ∃ y pos, x = .Name y pos ∧ okName C.N C.sc i y = true) ∨ ((∀ i, e ≠ .brw i) ∧ SndE C W x (evE Φ shs e)))
    (hs : SndA C W xs (evOs Φ shs es)) : SndA C W (x :: xs) (evOs Φ shs (e :: es)) := by
  intro M H σ nv Q st hd
  refine tA.by (fun X hX => pa_cons (PEo hX x) (PAo hX xs) (star_cons ns _ _)) ?_
  rw [evOs] at hd
  rcases he with ⟨i, rfl, y, pos, rfl, ok⟩ | ⟨ne, he⟩
  · simp only [argStep] at hd
    split at hd
    · rename_i s q
      obtain ⟨v, e1, _⟩ := st.get i _ q
      refine tE.by (pe_name ok) ⟨v, e1, ?_⟩
      refine hs M H σ nv _ st ?_
      cases e3 : evOs Φ shs es nv with
      | ok os nv2 =>
        rw [e3] at hd
        intro M2 H2 s2 st2 vs hv
        exact hd M2 H2 s2 st2 (v :: vs) ⟨v, vs, rfl, e1, hv⟩
      | exc c as nv2 => rw [e3] at hd; exact hd
      | stuck => rw [e3] at hd; exact hd
    · exact hd.elim
  · have e1 : argStep e nv (evE Φ shs e nv) (evOs Φ shs es) = (evE Φ shs e nv).bind fun r nv1 => (evOs Φ shs es nv1).bind fun os nv2 => .ok (.inl r.frz :: os) nv2 := by
      cases e <;> first | rfl | exact absurd rfl (ne _)
    rw [e1] at hd
    refine SndE.then he st hd fun r nv1 v M1 H1 e2 st1 rp s1 hd1 => ?_
    refine hs M1 H1 σ nv1 _ st1 ?_
    cases e3 : evOs Φ shs es nv1 with
    | ok os nv2 =>
      rw [e3] at hd1
      intro M2 H2 s2 st2 vs hv
      exact hd1 M2 H2 s2 st2 (v :: vs) ⟨v, vs, rfl, Rep.mono s2.mm rp, hv⟩
    | exc c as nv2 => rw [e3] at hd1; exact hd1
    | stuck => rw [e3] at hd1; exact hd1
end
end G
namespace G
open PySem PySem.Spec PyProof.Rows L2
variable [Tb]
section
variable {C : Cfg} {W : WX} {M H M1 H1 : Hp} {σ : L2.St} {nv nv1 : Nv} {Φ : Fn} {shs : Nat → Nat → Shape}
/-! ### leaves -/
theorem snd_const {x : Expr} {v : V} {d : D} (pe : ∀ X, AtE C W X → PE X x (tC v)) (rp : ∀ M, Rep C.K M d v) : SndE C W x (fun nv => .ok (.val d) nv) := by
  intro M H σ nv Q st hd
  refine tE.by pe ?_
  exact hd v M H ((Step.refl _ _ _).less fun a h => h.elim id False.elim) st (rp M)
theorem snd_non {i pos} : SndE C W (.Constant .none i pos) (evE Φ shs .non) := by
  have : evE Φ shs .non = fun nv => .ok (.val .non) nv := by funext nv; rw [evE]
  rw [this]
  exact snd_const (fun X hX => pe_non) fun M => by simp [Rep]
theorem snd_bl {b i pos} : SndE C W (.Constant (.bool b) i pos) (evE Φ shs (.bl b)) := by
  have : evE Φ shs (.bl b) = fun nv => .ok (.val (.bl b)) nv := by funext nv; rw [evE]
  rw [this]
  exact snd_const (fun X hX => pe_bl) fun M => by simp [Rep]
theorem snd_int {n i pos} : SndE C W (.Constant (.int n) i pos) (evE Φ shs (.int n)) := by
  have : evE Φ shs (.int n) = fun nv => .ok (.val (.int n)) nv := by funext nv; rw [evE]
  rw [this]
  exact snd_const (fun X hX => pe_int) fun M => by simp [Rep]
theorem snd_str {s i pos} : SndE C W (.Constant (.str s) i pos) (evE Φ shs (.str s)) := by
  have : evE Φ shs (.str s) = fun nv => .ok (.val (.str s)) nv := by funext nv; rw [evE]
  rw [this]
  exact snd_const (fun X hX => pe_str) fun M => by simp [Rep]
theorem own_set {nv : Nv} {i : Nat} {s : Option Sl} (hs : ∀ f ds, s ≠ some (.lv f ds)) {a : Addr} (h : Own σ (nv.set i s) a) : Own σ nv a ∧ ((∃ j, j ≠ i ∧ ∃ f ds, nv[j]? = some (some (.lv f ds)) ∧ σ[j]? = some (some (.ref a))) ∨ TbA a) := by
  rcases h with ⟨j, f, ds, h1, h2⟩ | h
  case inr => exact ⟨.inr h, .inr h⟩
  by_cases e : i = j
  · subst e
    rw [List.getElem?_set] at h1
    split at h1
    · split at h1
      · cases h1; exact absurd rfl (hs _ _)
      · cases h1
    · contradiction
  · rw [List.getElem?_set_ne e] at h1
    exact ⟨.inl ⟨j, f, ds, h1, h2⟩, .inl ⟨j, Ne.symm e, f, ds, h1, h2⟩⟩
/-- an own list is known from now on -/
def frzD : Kd → List D → D
  | .l _, ds => .lst ds
  | .dict ks, ds => .dct ks ds
theorem LoR.rep {K : PySem.W.Frag} {M : Hp} {a : Addr} {o : HO} : ∀ {f : Kd} {ds : List D}, LoR K M f ds o → M a = some o → Rep K M (frzD f ds) (.ref a)
  | .l _, ds, ⟨vs, e, r⟩, h => by subst e; simp only [frzD, Rep]; exact ⟨a, vs, rfl, h, r⟩
  | .dict ks, ds, ⟨vs, e, l, r⟩, h => by subst e; simp only [frzD, Rep]; exact ⟨a, vs, rfl, h, l, r⟩
theorem StR.giveK (st : StR C.K M H σ nv) {i : Nat} {f : Kd} {ds : List D} (q : nv[i]? = some (some (.lv f ds))) {s : Option Sl} (hs : s = none ∨ s = some (.val (frzD f ds))) :
    ∃ a vs, σ[i]? = some (some (.ref a)) ∧ H a = some vs ∧ M a = none ∧ LoR C.K M f ds vs ∧ StR C.K (upd M a vs) H σ (nv.set i s) ∧ ¬ Own σ (nv.set i s) a ∧ Step M H (Own σ nv) (upd M a vs) H (Own σ (nv.set i s)) := by
  obtain ⟨v, e1, a, vs, rfl, e2, e3, e4⟩ := st.get i _ q
  have hs' : ∀ f ds, s ≠ some (.lv f ds) := fun f ds z => by rcases hs with h | h <;> rw [h] at z <;> cases z
  have sm : Same M (upd M a vs) := same_upd e2
  have no : ¬ Own σ (nv.set i s) a := fun z => by
    obtain ⟨_, ⟨j, hj, g, ys, h1, h2⟩ | z⟩ := own_set hs' z
    case inr => exact st.notTab e3 (fun _ => e4.ntbl) z
    exact hj (st.apart j i g f ys ds _ h1 q h2 e1)
  refine ⟨a, vs, e1, e3, e2, e4, ⟨fun b o h => ?_, by simp [st.len], fun j t h => ?_, fun j k g g' xs ys v h1 h2 h3 h4 => ?_, fun p hp => ⟨by rw [upd_ne (fun z => st.notTab e3 (fun _ => e4.ntbl) ⟨p, hp, z⟩)]; exact (st.tb p hp).1, (st.tb p hp).2.ext sm fun _ h => h⟩⟩, no, sm, fun b o h _ => h, fun b h => .inl (own_set hs' h).1, fun b h => h, fun b o h => ?_⟩
  · by_cases hb : b = a
    · subst hb; rw [upd_same] at h; cases h; exact e3
    · rw [upd_ne hb] at h; exact st.ext _ _ h
  · rw [List.getElem?_set] at h
    split at h
    · rename_i e
      subst e
      split at h
      · rcases hs with e | e
        · rw [e] at h; cases h
        · rw [e] at h
          cases h
          refine ⟨_, e1, ?_⟩
          exact LoR.rep (LoR.mono sm e4) upd_same
      · cases h
    · rename_i hij
      obtain ⟨v, h1, h2⟩ := st.get j t h
      refine ⟨v, h1, ?_⟩
      cases t with
      | val d => exact Rep.mono sm h2
      | fn m ds => exact FnR.mono sm h2
      | lv g ys =>
        obtain ⟨b, ws, rfl, h3, h4, h5⟩ := h2
        have : b ≠ a := fun z => hij (st.apart i j f g ds ys _ q h e1 (z ▸ h1))
        exact ⟨b, ws, rfl, by rw [upd_ne this]; exact h3, h4, LoR.mono sm h5⟩
  · have k1 : ∀ j : Nat, (nv.set i s)[j]? = some (some (.lv g xs)) → nv[j]? = some (some (.lv g xs)) := fun j h => by
      by_cases e : i = j
      · subst e
        rw [List.getElem?_set] at h
        split at h
        · split at h
          · cases h; exact absurd rfl (hs' _ _)
          · cases h
        · contradiction
      · rwa [List.getElem?_set_ne e] at h
    have k2 : ∀ j : Nat, (nv.set i s)[j]? = some (some (.lv g' ys)) → nv[j]? = some (some (.lv g' ys)) := fun j h => by
      by_cases e : i = j
      · subst e
        rw [List.getElem?_set] at h
        split at h
        · split at h
          · cases h; exact absurd rfl (hs' _ _)
          · cases h
        · contradiction
      · rwa [List.getElem?_set_ne e] at h
    exact st.apart j k g g' xs ys v (k1 j h1) (k2 k h2) h3 h4
  · by_cases hb : b = a
    · subst hb; exact .inr (.inl (.inl ⟨i, f, ds, q, e1⟩))
    · rw [upd_ne hb] at h; exact .inl h
theorem StR.give (st : StR C.K M H σ nv) {i : Nat} {f : Bool} {ds : List D} (q : nv[i]? = some (some (.lv (.l f) ds))) {s : Option Sl} (hs : s = none ∨ s = some (.val (.lst ds))) :
    ∃ a vs, σ[i]? = some (some (.ref a)) ∧ H a = some (.lst vs) ∧ M a = none ∧ Reps C.K M ds vs ∧ StR C.K (upd M a (.lst vs)) H σ (nv.set i s) ∧ ¬ Own σ (nv.set i s) a ∧ Step M H (Own σ nv) (upd M a (.lst vs)) H (Own σ (nv.set i s)) := by
  obtain ⟨a, o, e1, e2, e3, ⟨vs, rfl, r⟩, h⟩ := st.giveK q hs
  exact ⟨a, vs, e1, e2, e3, r, h⟩
theorem snd_var {i : Nat} {x : Str} {pos : Pos} (h : okName C.N C.sc i x = true) : SndE C W (.Name x pos) (evE Φ shs (.var i)) := by
  intro M H σ nv Q st hd
  refine tE.by (pe_name h) ?_
  rw [evE] at hd
  unfold rdVar at hd
  split at hd
  · rename_i d q
    obtain ⟨v, e1, e2⟩ := st.get i _ q
    exact ⟨v, e1, hd v M H ((Step.refl _ _ _).less fun a h => h.elim id False.elim) st e2⟩
  · rename_i ds q
    obtain ⟨a, vs, e1, e2, e3, e4, st', no, s'⟩ := st.give q (s := some (.val (.lst ds))) (.inr rfl)
    refine ⟨_, e1, hd _ _ H (s'.less fun a h => h.elim id False.elim) st' ?_⟩
    simp only [RR, Rep]
    exact ⟨a, vs, rfl, upd_same, Reps.mono (same_upd e3) e4⟩
  · rename_i ks ds q
    obtain ⟨a, o, e1, e2, e3, e4, st', no, s'⟩ := st.giveK q (s := some (.val (.dct ks ds))) (.inr rfl)
    refine ⟨_, e1, hd _ _ H (s'.less fun a h => h.elim id False.elim) st' ?_⟩
    exact LoR.rep (f := .dict ks) (LoR.mono (same_upd e3) e4) upd_same
  · exact hd.elim
/-- a slot is emptied: its list is free -/
theorem StR.drop (st : StR C.K M H σ nv) (i : Nat) : StR C.K M H σ (nv.set i none) := by
  have k : ∀ j t, (nv.set i none)[j]? = some (some t) → nv[j]? = some (some t) ∧ j ≠ i := fun j t h => by
    by_cases e : i = j
    · subst e
      rw [List.getElem?_set] at h
      split at h
      · split at h
        · cases h
        · cases h
      · contradiction
    · rw [List.getElem?_set_ne e] at h
      exact ⟨h, Ne.symm e⟩
  exact ⟨st.ext, by simp [st.len], fun j t h => st.get j t (k j t h).1, fun j l g g' xs ys v h1 h2 h3 h4 => st.apart j l g g' xs ys v (k _ _ h1).1 (k _ _ h2).1 h3 h4, st.tb⟩
theorem snd_mov {i : Nat} {x : Str} {pos : Pos} (h : okName C.N C.sc i x = true) : SndE C W (.Name x pos) (evE Φ shs (.mov i)) := by
  intro M H σ nv Q st hd
  refine tE.by (pe_name h) ?_
  rw [evE] at hd
  unfold mvVar at hd
  split at hd
  · rename_i d q
    obtain ⟨v, e1, e2⟩ := st.get i _ q
    exact ⟨v, e1, hd v M H ((Step.refl _ _ _).less fun a h => h.elim id False.elim) st e2⟩
  · rename_i ds q
    obtain ⟨a, vs, e1, e2, e3, e4, _, no, _⟩ := st.give q (s := none) (.inl rfl)
    refine ⟨_, e1, hd _ M H ⟨Same.refl _, fun _ _ h _ => h, fun b hb => ?_, fun _ h => h, fun _ _ h => .inl h⟩ (st.drop i) ⟨a, vs, rfl, e2, e3, no, e4⟩⟩
    rcases hb with z | z
    · exact .inl (own_set (fun _ _ z => by cases z) z).1
    · have z' : V.ref a = V.ref b := z
      injection z' with z'
      subst z'
      exact .inl (.inl ⟨i, .l true, ds, q, e1⟩)
  · rename_i ks ds q
    obtain ⟨a, o, e1, e2, e3, e4, st', no, s'⟩ := st.giveK q (s := some (.val (.dct ks ds))) (.inr rfl)
    refine ⟨_, e1, hd _ _ H (s'.less fun a h => h.elim id False.elim) st' ?_⟩
    exact LoR.rep (f := .dict ks) (LoR.mono (same_upd e3) e4) upd_same
  · exact hd.elim
/-! ### displays -/
theorem snd_tup {xs : List Expr} {es : List E} {k : Nat} {pos : Pos} (h : SndA C W xs (evOs Φ shs es)) : SndE C W (.Tuple xs k pos) (evE Φ shs (.tup es)) := by
  intro M H σ nv Q st hd
  refine tE.by (fun X hX => GT.pe_tupN (PAo hX xs)) ?_
  rw [evE] at hd
  refine h M H σ nv _ st ?_
  cases e3 : evOs Φ shs es nv with
  | ok os nv2 =>
    rw [e3] at hd
    intro M2 H2 s2 st2 vs hv
    have hd := DoneE.later hd s2
    cases q : inls os with
    | none => simp only [Rs.bind, q] at hd; exact hd.elim
    | some ds =>
      simp only [Rs.bind, q, Option.bind] at hd
      by_cases hz : ds.length ≤ SZ
      · rw [if_pos hz] at hd
        have rp := OpdsR.inls hv q
        refine ⟨by rw [← rp.length]; exact SZ_le hz, ?_⟩
        exact PR.tup st2.ext (fun v' M' H' p' h' => prim_done hd st2 p' h') rp
      · rw [if_neg hz] at hd; exact hd.elim
  | exc c as nv2 => rw [e3] at hd; exact hd
  | stuck => rw [e3] at hd; exact hd
theorem snd_lst {xs : List Expr} {es : List E} {pos : Pos} (h : SndA C W xs (evOs Φ shs es)) : SndE C W (.List xs pos) (evE Φ shs (.lst es)) := by
  intro M H σ nv Q st hd
  refine tE.by (fun X hX => pe_lst (PAo hX xs)) ?_
  rw [evE] at hd
  refine h M H σ nv _ st ?_
  cases e3 : evOs Φ shs es nv with
  | ok os nv2 =>
    rw [e3] at hd
    intro M2 H2 s2 st2 vs hv
    have hd := DoneE.later hd s2
    cases q : inls os with
    | none => simp only [Rs.bind, q] at hd; exact hd.elim
    | some ds =>
      simp only [Rs.bind, q, Option.bind] at hd
      by_cases hz : ds.length ≤ SZ
      · rw [if_pos hz] at hd
        have rp := OpdsR.inls hv q
        refine ⟨by rw [← rp.length]; exact SZ_le hz, fun p np => ?_⟩
        exact PR.lst st2.ext (fun v' M' H' p' h' => prim_done hd st2 p' h') rp np
      · rw [if_neg hz] at hd; exact hd.elim
  | exc c as nv2 => rw [e3] at hd; exact hd
  | stuck => rw [e3] at hd; exact hd
/-! ### and, or, not, if else -/
theorem bl_of {r : R} {v : V} {b : Bool} (e : r = .val (.bl b)) (h : Rep C.K M r.frz v) : v = .bl b := by
  subst e
  simpa [R.frz, Rep] using h
theorem snd_and {x y : Expr} {a b : E} {whole : Expr} (ha : SndE C W x (evE Φ shs a)) (hb : SndE C W y (evE Φ shs b))
    (pe : ∀ X, AtE C W X → PE X whole (tAndV (tE C W x) (tE C W y))) : SndE C W whole (evE Φ shs (.and_ a b)) := by
  intro M H σ nv Q st hd
  refine tE.by pe ?_
  rw [evE] at hd
  refine SndE.thenE ha st hd fun r nv1 v M1 H1 e1 st1 rp s1 hd1 => ?_
  split at hd1
  · exact ⟨true, bl_of rfl rp, by rw [if_pos rfl]; exact hb M1 H1 σ nv1 Q st1 hd1⟩
  · exact ⟨false, bl_of rfl rp, by rw [if_neg (by decide)]; exact hd1 _ M1 H1 ((Step.refl _ _ _).less fun a h => h.elim id False.elim) st1 (by simp [RR, Rep])⟩
  · exact hd1.elim
theorem snd_or {x y : Expr} {a b : E} {whole : Expr} (ha : SndE C W x (evE Φ shs a)) (hb : SndE C W y (evE Φ shs b))
    (pe : ∀ X, AtE C W X → PE X whole (tOrV (tE C W x) (tE C W y))) : SndE C W whole (evE Φ shs (.or_ a b)) := by
  intro M H σ nv Q st hd
  refine tE.by pe ?_
  rw [evE] at hd
  refine SndE.thenE ha st hd fun r nv1 v M1 H1 e1 st1 rp s1 hd1 => ?_
  split at hd1
  · exact ⟨true, bl_of rfl rp, by rw [if_pos rfl]; exact hd1 _ M1 H1 ((Step.refl _ _ _).less fun a h => h.elim id False.elim) st1 (by simp [RR, Rep])⟩
  · exact ⟨false, bl_of rfl rp, by rw [if_neg (by decide)]; exact hb M1 H1 σ nv1 Q st1 hd1⟩
  · exact hd1.elim
theorem snd_not {x : Expr} {a : E} {pos : Pos} (ha : SndE C W x (evE Φ shs a)) : SndE C W (.UnaryOp .Not x pos) (evE Φ shs (.not_ a)) := by
  intro M H σ nv Q st hd
  refine tE.by (fun X hX => pe_not (PEo hX x)) ?_
  rw [evE] at hd
  refine SndE.thenE ha st hd fun r nv1 v M1 H1 e1 st1 rp s1 hd1 => ?_
  split at hd1
  · rename_i k
    exact ⟨k, bl_of rfl rp, hd1 _ M1 H1 ((Step.refl _ _ _).less fun a h => h.elim id False.elim) st1 (by simp [RR, Rep])⟩
  · exact hd1.elim
/-! ### tests -/
def tst (f : Nv → Rs R) (nv : Nv) : Rs Bool := (f nv).bind fun r nv1 => match r with
  | .val (.bl b) => .ok b nv1
  | _ => .stuck
def SndT (C : Cfg) (W : WX) (x : Expr) (f : Nv → Rs R) : Prop := ∀ M H σ nv (Q : Bool → Hp → Prop), StR C.K M H σ nv → DoneX C W M H σ nv (tst f nv) (fun b nv' M' H' => Q b H') → tT C W x σ H Q
theorem SndT.then {x : Expr} {f : Nv → Rs R} {α : Type} {g : R → Nv → Rs α} {g' : Bool → Nv → Rs α} {post : α → Nv → Hp → Hp → Prop} {Q : Bool → Hp → Prop} (h : SndT C W x f) (st : StR C.K M H σ nv) (hd : DoneX C W M H σ nv ((f nv).bind g) post)
    (hg : ∀ r nv, g r nv = match r with | .val (.bl b) => g' b nv | _ => .stuck)
    (k : ∀ b nv1 M1 H1, StR C.K M1 H1 σ nv1 → Step M H (Own σ nv) M1 H1 (Own σ nv1) → DoneX C W M1 H1 σ nv1 (g' b nv1) post → Q b H1) : tT C W x σ H Q := by
  refine h M H σ nv Q st ?_
  unfold tst
  cases e : f nv with
  | ok r nv1 =>
    rw [e] at hd
    simp only [Rs.bind] at hd ⊢
    rw [hg] at hd
    split at hd
    · rename_i b
      intro M' H' s st'
      exact k b nv1 M' H' st' s (DoneX.later hd s)
    · exact hd.elim
  | exc c as nv1 => rw [e] at hd; exact hd
  | stuck => rw [e] at hd; exact hd.elim
theorem SndT.thenE {x : Expr} {f : Nv → Rs R} {g : R → Nv → Rs R} {g' : Bool → Nv → Rs R} {Q' : VK} {Q : Bool → Hp → Prop} (h : SndT C W x f) (st : StR C.K M H σ nv) (hd : DoneE C W M H σ nv ((f nv).bind g) Q')
    (hg : ∀ r nv, g r nv = match r with | .val (.bl b) => g' b nv | _ => .stuck)
    (k : ∀ b nv1 M1 H1, StR C.K M1 H1 σ nv1 → Step M H (Own σ nv) M1 H1 (Own σ nv1) → DoneE C W M1 H1 σ nv1 (g' b nv1) Q' → Q b H1) : tT C W x σ H Q := by
  refine h M H σ nv Q st ?_
  unfold tst
  cases e : f nv with
  | ok r nv1 =>
    rw [e] at hd
    simp only [Rs.bind] at hd ⊢
    rw [hg] at hd
    split at hd
    · rename_i b
      intro M' H' s st'
      exact k b nv1 M' H' st' s (DoneE.later hd s)
    · exact hd.elim
  | exc c as nv1 => rw [e] at hd; exact hd
  | stuck => rw [e] at hd; exact hd.elim
theorem snd_ife {c x y : Expr} {e a b : E} {pos : Pos} (hc : SndT C W c (evE Φ shs e)) (ha : SndE C W x (evE Φ shs a)) (hb : SndE C W y (evE Φ shs b)) : SndE C W (.IfExp c x y pos) (evE Φ shs (.ife e a b)) := by
  intro M H σ nv Q st hd
  refine tE.by (fun X hX => pe_ifExp (PTo hX c) (PEo hX x) (PEo hX y)) ?_
  rw [evE] at hd
  refine SndT.thenE (g' := fun b' nv1 => if b' = true then evE Φ shs a nv1 else evE Φ shs b nv1) hc st hd (fun r nv => ?_) fun k nv1 M1 H1 st1 s1 hd1 => ?_
  · split <;> first | rfl | (rename_i h1 h2; split <;> first | rfl | (rename_i k; cases k <;> first | exact absurd rfl h1 | exact absurd rfl h2))
  · cases k with
    | true => rw [if_pos rfl] at hd1 ⊢; exact ha M1 H1 σ nv1 Q st1 hd1
    | false => rw [if_neg (by decide)] at hd1 ⊢; exact hb M1 H1 σ nv1 Q st1 hd1
end
end G
namespace G
open PySem PySem.Spec PyProof.Rows L2
variable [Tb]
section
variable {C : Cfg} {W : WX} {M H M1 H1 : Hp} {σ : L2.St} {nv nv1 : Nv} {Φ : Fn} {shs : Nat → Nat → Shape}
structure tW (C : Cfg) (W : WX) (x : Expr)  (σ : L2.St) (H : Hp) (Q : Bool → Hp → Prop) : Prop where
  un : ∀ X, AtE C W X → ∀ whole pins s, Inv X pins σ H s → wpAny (model X.prog X.w) X.A (isTrue x X.env whole) (TP X pins σ Q) X.xe s
theorem PWo {X : Cx} (h : AtE C W X) (x : Expr) : PW X x (tW C W x) := ⟨fun wh pins s σ H Q I t => t.un X h wh pins s I⟩
theorem tW.by {x : Expr} {t : TT} {σ : L2.St} {H : Hp} {Q : Bool → Hp → Prop} (pe : ∀ X, AtE C W X → PW X x t) (h : t σ H Q) : tW C W x σ H Q := ⟨fun X hX wh pins s I => (pe X hX).run wh pins s σ H Q I h⟩
def SndW (C : Cfg) (W : WX) (x : Expr) (f : Nv → Rs R) : Prop := ∀ M H σ nv (Q : Bool → Hp → Prop), StR C.K M H σ nv → DoneX C W M H σ nv (tst f nv) (fun b nv' M' H' => Q b H') → tW C W x σ H Q
theorem SndW.t {x : Expr} {f : Nv → Rs R} (h : SndW C W x f) : SndT C W x f := fun M H σ nv Q st hd => tT.by (fun X hX => (PWo hX x).pt) (h M H σ nv Q st hd)
theorem tst_and {a b : E} (nv : Nv) : tst (evE Φ shs (.and_ a b)) nv = (evE Φ shs a nv).bind fun r nv1 => match r with | .val (.bl k) => (if k = true then tst (evE Φ shs b) nv1 else .ok false nv1) | _ => .stuck := by
  unfold tst
  rw [evE]
  cases evE Φ shs a nv with
  | ok r nv1 =>
    cases r with
    | val d =>
      cases d with
      | bl k => cases k <;> rfl
      | _ => rfl
    | own ds => rfl
  | exc c as nv1 => rfl
  | stuck => rfl
theorem tst_or {a b : E} (nv : Nv) : tst (evE Φ shs (.or_ a b)) nv = (evE Φ shs a nv).bind fun r nv1 => match r with | .val (.bl k) => (if k = true then .ok true nv1 else tst (evE Φ shs b) nv1) | _ => .stuck := by
  unfold tst
  rw [evE]
  cases evE Φ shs a nv with
  | ok r nv1 =>
    cases r with
    | val d =>
      cases d with
      | bl k => cases k <;> rfl
      | _ => rfl
    | own ds => rfl
  | exc c as nv1 => rfl
  | stuck => rfl
theorem tst_not {a : E} (nv : Nv) : tst (evE Φ shs (.not_ a)) nv = (evE Φ shs a nv).bind fun r nv1 => match r with | .val (.bl k) => .ok (!k) nv1 | _ => .stuck := by
  unfold tst
  rw [evE]
  cases evE Φ shs a nv with
  | ok r nv1 =>
    cases r with
    | val d =>
      cases d with
      | bl k => cases k <;> rfl
      | _ => rfl
    | own ds => rfl
  | exc c as nv1 => rfl
  | stuck => rfl
theorem sndW_and {x y : Expr} {xs : List Expr} {a b : E} {pos : Pos} (ha : SndT C W x (evE Φ shs a)) (hb : (xs = [] ∧ SndT C W y (evE Φ shs b)) ∨ SndW C W (.BoolOp .And (y :: xs) pos) (evE Φ shs b)) :
    SndW C W (.BoolOp .And (x :: y :: xs) pos) (evE Φ shs (.and_ a b)) := by
  have key : ∀ {tb : TT}, (∀ X, AtE C W X → PW X (.BoolOp .And (y :: xs) pos) tb) → (∀ M H σ nv (Q : Bool → Hp → Prop), StR C.K M H σ nv → DoneX C W M H σ nv (tst (evE Φ shs b) nv) (fun b nv' M' H' => Q b H') → tb σ H Q) → SndW C W (.BoolOp .And (x :: y :: xs) pos) (evE Φ shs (.and_ a b)) := by
    intro tb pe hb M H σ nv Q st hd
    refine tW.by (fun X hX => pw_and (PTo hX x) (pe X hX)) ?_
    rw [tst_and] at hd
    refine SndT.then (g' := fun k nv1 => if k = true then tst (evE Φ shs b) nv1 else .ok false nv1) ha st hd (fun r nv => rfl) fun k nv1 M1 H1 st1 s1 hd1 => ?_
    cases k with
    | true => rw [if_pos rfl] at hd1 ⊢; exact hb M1 H1 σ nv1 Q st1 hd1
    | false => rw [if_neg (by decide)] at hd1 ⊢; exact hd1 M1 H1 (Step.refl _ _ _) st1
  rcases hb with ⟨rfl, hb⟩ | hb
  · exact key (fun X hX => pw_and1 (PTo hX y)) hb
  · exact key (fun X hX => PWo hX _) hb
theorem sndW_or {x y : Expr} {xs : List Expr} {a b : E} {pos : Pos} (ha : SndT C W x (evE Φ shs a)) (hb : (xs = [] ∧ SndT C W y (evE Φ shs b)) ∨ SndW C W (.BoolOp .Or (y :: xs) pos) (evE Φ shs b)) :
    SndW C W (.BoolOp .Or (x :: y :: xs) pos) (evE Φ shs (.or_ a b)) := by
  have key : ∀ {tb : TT}, (∀ X, AtE C W X → PW X (.BoolOp .Or (y :: xs) pos) tb) → (∀ M H σ nv (Q : Bool → Hp → Prop), StR C.K M H σ nv → DoneX C W M H σ nv (tst (evE Φ shs b) nv) (fun b nv' M' H' => Q b H') → tb σ H Q) → SndW C W (.BoolOp .Or (x :: y :: xs) pos) (evE Φ shs (.or_ a b)) := by
    intro tb pe hb M H σ nv Q st hd
    refine tW.by (fun X hX => pw_or (PTo hX x) (pe X hX)) ?_
    rw [tst_or] at hd
    refine SndT.then (g' := fun k nv1 => if k = true then .ok true nv1 else tst (evE Φ shs b) nv1) ha st hd (fun r nv => rfl) fun k nv1 M1 H1 st1 s1 hd1 => ?_
    cases k with
    | true => rw [if_pos rfl] at hd1 ⊢; exact hd1 M1 H1 (Step.refl _ _ _) st1
    | false => rw [if_neg (by decide)] at hd1 ⊢; exact hb M1 H1 σ nv1 Q st1 hd1
  rcases hb with ⟨rfl, hb⟩ | hb
  · exact key (fun X hX => pw_or1 (PTo hX y)) hb
  · exact key (fun X hX => PWo hX _) hb
theorem sndT_not {x : Expr} {a : E} {pos : Pos} (ha : SndT C W x (evE Φ shs a)) : SndT C W (.UnaryOp .Not x pos) (evE Φ shs (.not_ a)) := by
  intro M H σ nv Q st hd
  refine tT.by (fun X hX => pt_not (PTo hX x)) ?_
  rw [tst_not] at hd
  refine SndT.then (g' := fun k nv1 => .ok (!k) nv1) ha st hd (fun r nv => rfl) fun k nv1 M1 H1 st1 s1 hd1 => hd1 M1 H1 (Step.refl _ _ _) st1
/-- a value that is True or False, as a test -/
def plainT : Expr → Bool
  | .UnaryOp .Not _ _ => false
  | .BoolOp _ _ _ => false
  | .IfExp _ _ _ _ => false
  | .Compare _ _ _ _ => false
  | _ => true
theorem isTrue_of {x : Expr} (h : plainT x = true) (env : PySem.Env) (whole : Sem Value) : isTrue x env whole = (do let v ← whole; standAt x.pos; holding [v] (truthy v)) := by
  cases x with
  | UnaryOp op y pos => cases op <;> first | rfl | (cases h)
  | BoolOp => cases h
  | IfExp => cases h
  | Compare => cases h
  | _ => rfl
/-- a comparison as a test, by its value's rule -/
theorem sndT_cmp {x y whole : Expr} {a b : E} {p : P2} {r : V → V → Hp → VK → Prop} (ho : SndO C W x (fun nv => opd a nv (evE Φ shs a nv))) (ho2 : SndO C W y (fun nv => opd b nv (evE Φ shs b nv)))
    (pe : ∀ X, AtE C W X → PT X whole (fun σ H Q => tE C W x σ H fun v H1 => tE C W y σ H1 fun u H2 => r v u H2 fun z H3 => ∃ k, z = .bl k ∧ Q k H3)) (ok : Ok2 C.K r (p2 p)) : SndT C W whole (evE Φ shs (.op2 p a b)) := by
  intro M H σ nv Q st hd
  refine tT.by pe ?_
  have hd0 : DoneE C W M H σ nv (evE Φ shs (.op2 p a b) nv) (fun z H3 => ∃ k, z = .bl k ∧ Q k H3) := by
    unfold tst at hd
    cases e : evE Φ shs (.op2 p a b) nv with
    | ok r nv1 =>
      rw [e] at hd
      intro v M' H' s st' rr
      simp only [Rs.bind] at hd
      split at hd
      · rename_i k
        simp only [RR, Rep] at rr
        exact ⟨k, rr, hd M' H' (s.less fun a h => .inl h) st'⟩
      · exact hd.elim
    | exc c as nv1 => rw [e] at hd; exact hd
    | stuck => rw [e] at hd; exact hd
  rw [evE] at hd0
  refine SndO.then ho st hd0 fun o nv1 v M1 H1 e1 st1 ov s1 hd1 => ?_
  refine SndO.then ho2 st1 hd1 fun o2 nv2 u M2 H2 e2 st2 ou s2 hd2 => ?_
  have ov2 := OpdR.mono s2.mm ov
  cases l : look nv2 o with
  | none => rw [l] at hd2; exact hd2.elim
  | some d =>
    cases l2 : look nv2 o2 with
    | none => rw [l, l2] at hd2; exact hd2.elim
    | some e =>
      rw [l, l2] at hd2
      have hd3 : DoneE C W M2 H2 σ nv2 (Rs.of (p2 p d e) nv2) _ := hd2
      cases q : p2 p d e with
      | none => rw [q] at hd3; exact hd3.elim
      | some res =>
        rw [q] at hd3
        exact ok M2 H2 d e v u res _ st2.ext (look_ok st2 ov2 l) (look_ok st2 ou l2) q fun v' M' H' p' h' => prim_done hd3 st2 p' h'
/-- one operand, as a test -/
theorem sndT_op1 {x whole : Expr} {a : E} {p : P1} {r : V → Hp → VK → Prop} (ho : SndO C W x (fun nv => opd a nv (evE Φ shs a nv)))
    (pe : ∀ X, AtE C W X → PT X whole (fun σ H Q => tE C W x σ H fun v H1 => r v H1 fun z H3 => ∃ k, z = .bl k ∧ Q k H3)) (ok : Ok1 C.K r (p1 p)) : SndT C W whole (evE Φ shs (.op1 p a)) := by
  intro M H σ nv Q st hd
  refine tT.by pe ?_
  have hd0 : DoneE C W M H σ nv (evE Φ shs (.op1 p a) nv) (fun z H3 => ∃ k, z = .bl k ∧ Q k H3) := by
    unfold tst at hd
    cases e : evE Φ shs (.op1 p a) nv with
    | ok r nv1 =>
      rw [e] at hd
      intro v M' H' s st' rr
      simp only [Rs.bind] at hd
      split at hd
      · rename_i k
        simp only [RR, Rep] at rr
        exact ⟨k, rr, hd M' H' (s.less fun a h => .inl h) st'⟩
      · exact hd.elim
    | exc c as nv1 => rw [e] at hd; exact hd
    | stuck => rw [e] at hd; exact hd
  rw [evE] at hd0
  refine SndO.then ho st hd0 fun o nv1 v M1 H1 e1 st1 ov s1 hd1 => ?_
  cases l : look nv1 o with
  | none => rw [l] at hd1; exact hd1.elim
  | some d =>
    rw [l] at hd1
    have hd2 : DoneE C W M1 H1 σ nv1 (Rs.of (p1 p d) nv1) _ := hd1
    cases q : p1 p d with
    | none => rw [q] at hd2; exact hd2.elim
    | some res =>
      rw [q] at hd2
      exact ok M1 H1 d v res _ st1.ext (look_ok st1 ov l) q fun v' M' H' p' h' => prim_done hd2 st1 p' h'
/-- the truth of a value, as a test -/
theorem sndT_truth {x : Expr} {a : E} (hp : plainT x = true) (ho : SndO C W x (fun nv => opd a nv (evE Φ shs a nv))) : SndT C W x (evE Φ shs (.op1 .truth a)) := by
  refine sndT_op1 (r := fun v H Q => ∃ k, TruV C.K v H k ∧ Q (.bl k) H) ho (fun X hX => ?_) ok_truth
  refine ⟨fun pins s σ H Q I h => ?_⟩
  refine (pt_truth (PEo hX x) (isTrue_of hp _)).run pins s σ H Q I ?_
  have h' : tE C W x σ H fun v H1 => ∃ k, TruV C.K v H1 k ∧ ∃ k', V.bl k = .bl k' ∧ Q k' H1 := h
  refine ⟨fun X' hX' pins' s' I' => ?_⟩
  refine thn (h'.un X' hX' pins' s' I') fun u s2 ⟨v, H2, I2, r2, k, t, k', e, q⟩ => ⟨v, H2, I2, r2, k, ?_, ?_⟩
  · rw [hX.K]; exact t
  · cases e; exact q
end
end G
namespace G
open PySem PySem.Spec PyProof.Rows L2
variable [Tb]
section
variable {C : Cfg} {W : WX} {M H M1 H1 : Hp} {σ : L2.St} {nv nv1 : Nv} {Φ : Fn} {shs : Nat → Nat → Shape}
/-! ### targets -/
structure tG (C : Cfg) (W : WX) (tg : Expr)  (v : V) (σ : L2.St) (H : Hp) (Q : L2.St → Hp → Prop) : Prop where
  un : ∀ X, AtE C W X → ∀ pins s u, Inv X pins σ H s → RelV v u → wpAny (model X.prog X.w) X.A (assign tg X.env u) (fun _ s' => ∃ σ' H', Inv X pins σ' H' s' ∧ Q σ' H') X.xe s
theorem PGo {X : Cx} (h : AtE C W X) (x : Expr) : PG X x (tG C W x) := ⟨fun pins s σ H v u Q I r t => t.un X h pins s u I r⟩
theorem tG.by {x : Expr} {t : TG} {v : V} {σ : L2.St} {H : Hp} {Q : L2.St → Hp → Prop} (pe : ∀ X, AtE C W X → PG X x t) (h : t v σ H Q) : tG C W x v σ H Q := ⟨fun X hX pins s u I r => (pe X hX).run pins s σ H v u Q I r h⟩
/-- the slots that a target stores to -/
def T.slots : T → List Nat
  | .nm i => [i]
  | .two a b => a.slots ++ b.slots
  | .three a b c => a.slots ++ b.slots ++ c.slots
  | .nms is => is
def chkNs (N : List Str) (st : Str → Bool) : List Nat → List Expr → Bool
  | [], [] => true
  | i :: is, .Name x _ :: xs => decide (N[i]? = some x) && st x && chkNs N st is xs
  | _, _ => false
def chkT1 (N : List Str) (st : Str → Bool) : T → Expr → Bool
  | .nm i, .Name x _ => decide (N[i]? = some x) && st x
  | .two a b, .Tuple [x, y] _ _ => chkT1 N st a x && chkT1 N st b y && noStars [x, y]
  | .three a b c, .Tuple [x, y, z] _ _ => chkT1 N st a x && chkT1 N st b y && chkT1 N st c z && noStars [x, y, z]
  | .nms is, .Tuple xs _ _ => chkNs N st is xs
  | _, _ => false
theorem pg_nm {i : Nat} {x : Str} {pos : Pos} (h : C.N[i]? = some x) (hs : C.st x = true) (X : Cx) (hX : AtE C W X) : PG X (.Name x pos) (gName i) := by
  obtain ⟨h1, h2⟩ := hX.fn x hs
  exact pg_name hX.nd (by rw [hX.N]; exact h) h1 h2
theorem asg_cons {x : Expr} (h : noStar x = true) (xs : List Expr) (env : PySem.Env) : (assignEach (x :: xs) env) = (false, assign x env) :: assignEach xs env := by
  cases x <;> first | rfl | (cases h)
theorem asg_find : ∀ {xs : List Expr} {env : PySem.Env}, noStars xs = true → (assignEach xs env).findIdx? (·.1) = none
  | [], _, _ => rfl
  | x :: xs, env, h => by
    obtain ⟨h1, h2⟩ := noStars_cons h
    rw [asg_cons h1, List.findIdx?_cons]
    simp [asg_find h2]
theorem asg_len : ∀ {xs : List Expr} {env : PySem.Env}, noStars xs = true → (assignEach xs env).length = xs.length
  | [], _, _ => rfl
  | x :: xs, env, h => by
    obtain ⟨h1, h2⟩ := noStars_cons h
    rw [asg_cons h1, List.length_cons, asg_len h2, List.length_cons]
/-- a store of data to a slot that holds no borrowed list -/
theorem StR.putD (st : StR C.K M H σ nv) {i : Nat} {d : D} {v : V} {u : Unit} {nv' : Nv} (e : stSlot i (.val d) nv = .ok u nv') (r : Rep C.K M d v) :
    StR C.K M H (σ.set i (some v)) nv' ∧ (∀ a, Own (σ.set i (some v)) nv' a → Own σ nv a) ∧ nv' = nv.set i (some (.val d)) := by
  have e' : nv' = nv.set i (some (.val d)) := by
    unfold stSlot at e
    split at e
    · cases e
    · cases e; rfl
    · cases e
  subst e'
  have k : ∀ (j : Nat) (f : Kd) (ds : List D), (nv.set i (some (.val d)))[j]? = some (some (.lv f ds)) → nv[j]? = some (some (.lv f ds)) ∧ i ≠ j := fun j f ds h => by
    by_cases e : i = j
    · subst e
      rw [List.getElem?_set] at h
      split at h
      · split at h <;> cases h
      · contradiction
    · rw [List.getElem?_set_ne e] at h
      exact ⟨h, e⟩
  refine ⟨⟨st.ext, by simp [st.len], fun j t h => ?_, fun j l g g' xs ys w h1 h2 h3 h4 => ?_, st.tb⟩, fun a h => ?_, rfl⟩
  · by_cases e : i = j
    · subst e
      rw [List.getElem?_set] at h
      split at h
      · split at h
        · cases h
          rename_i h1
          refine ⟨v, ?_, r⟩
          rw [List.getElem?_set_self (by rw [← st.len]; exact h1)]
        · cases h
      · contradiction
    · rw [List.getElem?_set_ne e] at h ⊢
      exact st.get j t h
  · obtain ⟨h1, e1⟩ := k _ _ _ h1
    obtain ⟨h2, e2⟩ := k _ _ _ h2
    rw [List.getElem?_set_ne e1] at h3
    rw [List.getElem?_set_ne e2] at h4
    exact st.apart j l g g' xs ys w h1 h2 h3 h4
  · rcases h with ⟨j, f, ds, h1, h2⟩ | h
    case inr => exact .inr h
    obtain ⟨h1, e1⟩ := k _ _ _ h1
    rw [List.getElem?_set_ne e1] at h2
    exact .inl ⟨j, f, ds, h1, h2⟩
theorem pg_two {x y : Expr} {kk : Nat} {pos : Pos} (c3 : noStars [x, y] = true) (X : Cx) (hX : AtE C W X) : PG X (.Tuple [x, y] kk pos) (gTup C.K 2 (gCons (tG C W x) (gCons (tG C W y) gNil))) := by
  obtain ⟨n1, n2⟩ := noStars_cons c3
  obtain ⟨n2, n3⟩ := noStars_cons n2
  rw [← hX.K]
  exact pg_tup (n := 2) hX.calm (pgs_cons (PGo hX x) (pgs_cons (PGo hX y) pgs_nil (by rw [asg_cons n2]; rfl)) (by rw [asg_cons n1]; rfl)) (asg_len c3) (asg_find c3)
theorem pg_three {x y z : Expr} {kk : Nat} {pos : Pos} (c3 : noStars [x, y, z] = true) (X : Cx) (hX : AtE C W X) : PG X (.Tuple [x, y, z] kk pos) (gTup C.K 3 (gCons (tG C W x) (gCons (tG C W y) (gCons (tG C W z) gNil)))) := by
  obtain ⟨n1, n2⟩ := noStars_cons c3
  obtain ⟨n2, n3⟩ := noStars_cons n2
  obtain ⟨n3, n4⟩ := noStars_cons n3
  rw [← hX.K]
  exact pg_tup (n := 3) hX.calm (pgs_cons (PGo hX x) (pgs_cons (PGo hX y) (pgs_cons (PGo hX z) pgs_nil (by rw [asg_cons n3]; rfl)) (by rw [asg_cons n2]; rfl)) (by rw [asg_cons n1]; rfl)) (asg_len c3) (asg_find c3)
theorem chkNs_stars {N : List Str} {st : Str → Bool} : ∀ {is : List Nat} {xs : List Expr}, chkNs N st is xs = true → noStars xs = true ∧ xs.length = is.length
  | [], [], _ => ⟨rfl, rfl⟩
  | i :: is, x :: xs, h => by
    cases x <;> simp only [chkNs] at h <;> try (cases h; done)
    rw [Bool.and_eq_true] at h
    obtain ⟨h1, h2⟩ := chkNs_stars h.2
    exact ⟨by simp [noStars] at h1 ⊢; exact ⟨rfl, h1⟩, by simp [h2]⟩
  | [], x :: xs, h => by simp [chkNs] at h
  | i :: is, [], h => by simp [chkNs] at h
def gNs : List Nat → TGs
  | [] => gNil
  | i :: is => gCons (gName i) (gNs is)
theorem pgs_nms : ∀ {is : List Nat} {xs : List Expr}, chkNs C.N C.st is xs = true → ∀ X, AtE C W X → PGs X xs (gNs is)
  | [], [], _, X, hX => pgs_nil
  | i :: is, x :: xs, h, X, hX => by
    have hs := chkNs_stars h
    cases x <;> simp only [chkNs] at h <;> try (cases h; done)
    rw [Bool.and_eq_true, Bool.and_eq_true, decide_eq_true_eq] at h
    exact pgs_cons (pg_nm h.1.1 h.1.2 X hX) (pgs_nms h.2 X hX) (by rw [asg_cons (by rfl)]; rfl)
  | [], x :: xs, h, X, hX => by simp [chkNs] at h
  | i :: is, [], h, X, hX => by simp [chkNs] at h
theorem pg_nms {is : List Nat} {xs : List Expr} {kk : Nat} {pos : Pos} (h : chkNs C.N C.st is xs = true) (X : Cx) (hX : AtE C W X) : PG X (.Tuple xs kk pos) (gTup C.K is.length (gNs is)) := by
  obtain ⟨h1, h2⟩ := chkNs_stars h
  rw [← hX.K]
  exact pg_tup (n := is.length) hX.calm (pgs_nms h X hX) (by rw [asg_len h1, h2]) (asg_find h1)
theorem sndNs : ∀ {is : List Nat} {ds : List D} {vs : List V} {M H : Hp} {σ : L2.St} {nv nv' : Nv} {u : Unit} {Q : L2.St → Hp → Prop}, StR C.K M H σ nv → Reps C.K M ds vs → asgNs is ds nv = .ok u nv' →
    (∀ σ', StR C.K M H σ' nv' → (∀ a, Own σ' nv' a → Own σ nv a) → (∀ j, j ∉ is → σ'[j]? = σ[j]? ∧ nv'[j]? = nv[j]?) → Q σ' H) → gNs is vs σ H Q ∧ is.length = vs.length
  | [], [], _, M, H, σ, nv, nv', u, Q, st, r, e, k => by
    simp only [Reps] at r
    subst r
    cases e
    exact ⟨⟨rfl, k σ st (fun _ h => h) fun _ _ => ⟨rfl, rfl⟩⟩, rfl⟩
  | i :: is, d :: ds, vs, M, H, σ, nv, nv', u, Q, st, r, e, k => by
    simp only [Reps] at r
    obtain ⟨v, vs', rfl, r1, r2⟩ := r
    simp only [asgNs] at e
    cases e1 : stSlot i (.val d) nv with
    | ok u1 nv1 =>
      rw [e1] at e
      obtain ⟨h1, h2, h3⟩ := st.putD e1 r1
      obtain ⟨g1, g2⟩ := sndNs (is := is) (ds := ds) (Q := Q) h1 r2 e fun σ' st' o' q' => k σ' st' (fun a h => h2 a (o' a h)) fun j hj => by
        rw [List.mem_cons, not_or] at hj
        have hij : i ≠ j := fun z => hj.1 z.symm
        subst h3
        exact ⟨(q' j hj.2).1.trans (List.getElem?_set_ne hij), (q' j hj.2).2.trans (List.getElem?_set_ne hij)⟩
      exact ⟨⟨v, vs', rfl, g1⟩, by simp [g2]⟩
    | exc c as nv1 => rw [e1] at e; cases e
    | stuck => rw [e1] at e; cases e
  | [], d :: ds, _, M, H, σ, nv, nv', u, Q, st, r, e, k => by cases e
  | i :: is, [], _, M, H, σ, nv, nv', u, Q, st, r, e, k => by cases e
theorem asgD_two {a b : T} {d : D} {nv nv' : Nv} {u : Unit} (h : asgD (.two a b) d nv = .ok u nv') : ∃ x y, d = .tup [x, y] ∧ ((asgD a x nv).bind fun _ nv1 => asgD b y nv1) = .ok u nv' := by
  cases d with
  | tup ds => rcases ds with _ | ⟨x, _ | ⟨y, _ | ⟨z, r⟩⟩⟩ <;> first | exact ⟨_, _, rfl, h⟩ | cases h
  | _ => cases h
theorem asgD_three {a b c : T} {d : D} {nv nv' : Nv} {u : Unit} (h : asgD (.three a b c) d nv = .ok u nv') : ∃ x y z, d = .tup [x, y, z] ∧ ((asgD a x nv).bind fun _ nv1 => (asgD b y nv1).bind fun _ nv2 => asgD c z nv2) = .ok u nv' := by
  cases d with
  | tup ds => rcases ds with _ | ⟨x, _ | ⟨y, _ | ⟨z, _ | ⟨w, r⟩⟩⟩⟩ <;> first | exact ⟨_, _, _, rfl, h⟩ | cases h
  | _ => cases h
theorem sndG (t : T) : ∀ {x : Expr} {d : D} {v : V} {M H : Hp} {σ : L2.St} {nv nv' : Nv} {u : Unit} {Q : L2.St → Hp → Prop}, chkT1 C.N C.st t x = true → StR C.K M H σ nv → Rep C.K M d v → asgD t d nv = .ok u nv' →
    (∀ σ', StR C.K M H σ' nv' → (∀ a, Own σ' nv' a → Own σ nv a) → (∀ j, j ∉ t.slots → σ'[j]? = σ[j]? ∧ nv'[j]? = nv[j]?) → Q σ' H) → tG C W x v σ H Q := by
  induction t with
  | nm i =>
    intro x d v M H σ nv nv' u Q hc st r e k
    cases x <;> simp only [chkT1] at hc <;> try (cases hc)
    simp only [Bool.and_eq_true, decide_eq_true_eq] at hc
    obtain ⟨h1, h2, h3⟩ := st.putD e r
    refine tG.by (pg_nm hc.1 hc.2) ?_
    refine k _ h1 h2 fun j hj => ?_
    have : i ≠ j := fun z => hj (by simp [T.slots, z])
    subst h3
    exact ⟨List.getElem?_set_ne this, List.getElem?_set_ne this⟩
  | two a b iha ihb =>
    intro x d v M H σ nv nv' u Q hc st r e k
    unfold chkT1 at hc
    split at hc
    · rename_i h; cases h
    · rename_i a' b' x y kk pos ht
      cases ht
      simp only [Bool.and_eq_true] at hc
      obtain ⟨⟨c1, c2⟩, c3⟩ := hc
      obtain ⟨d1, d2, rfl, q⟩ := asgD_two e
      clear e
      simp only [Rep] at r
      obtain ⟨p, vs, rfl, hq, hr⟩ := r
      simp only [Reps] at hr
      obtain ⟨v1, vs1, rfl, r1, v2, vs2, rfl, r2, rfl⟩ := hr
      cases e1 : asgD a d1 nv with
      | ok u1 nv1 =>
        rw [e1] at q
        refine tG.by (pg_two c3) ⟨p, _, rfl, SqT.up st.ext hq, rfl, v1, [v2], rfl, ?_⟩
        refine iha c1 st r1 e1 fun σ1 st1 o1 q1 => ⟨v2, [], rfl, ?_⟩
        refine ihb c2 st1 r2 q fun σ2 st2 o2 q2 => ⟨rfl, ?_⟩
        refine k σ2 st2 (fun a h => o1 a (o2 a h)) fun j hj => ?_
        simp only [T.slots, List.mem_append, not_or] at hj
        exact ⟨(q2 j hj.2).1.trans (q1 j hj.1).1, (q2 j hj.2).2.trans (q1 j hj.1).2⟩
      | exc c as nv1 => rw [e1] at q; cases q
      | stuck => rw [e1] at q; cases q
    · rename_i h; cases h
    · rename_i h; cases h
    · cases hc
  | nms is =>
    intro x d v M H σ nv nv' u Q hc st r e k
    unfold chkT1 at hc
    split at hc
    · rename_i h; cases h
    · rename_i h; cases h
    · rename_i h; cases h
    · rename_i is' xs kk pos ht
      cases ht
      cases d <;> first | (cases e; done) | skip
      rename_i ds
      simp only [Rep] at r
      obtain ⟨p, vs, rfl, hq, hr⟩ := r
      obtain ⟨g1, g2⟩ := sndNs (Q := Q) st hr e k
      exact tG.by (pg_nms hc) ⟨p, vs, rfl, SqT.up st.ext hq, g2.symm, g1⟩
    · cases hc
  | three a b c iha ihb ihc =>
    intro x d v M H σ nv nv' u Q hc st r e k
    unfold chkT1 at hc
    split at hc
    · rename_i h; cases h
    · rename_i h; cases h
    · rename_i a' b' c' x y z kk pos ht
      cases ht
      simp only [Bool.and_eq_true] at hc
      obtain ⟨⟨⟨c1, c2⟩, c2'⟩, c3⟩ := hc
      obtain ⟨d1, d2, d3, rfl, q⟩ := asgD_three e
      clear e
      simp only [Rep] at r
      obtain ⟨p, vs, rfl, hq, hr⟩ := r
      simp only [Reps] at hr
      obtain ⟨v1, vs1, rfl, r1, v2, vs2, rfl, r2, v3, vs3, rfl, r3, rfl⟩ := hr
      cases e1 : asgD a d1 nv with
      | ok u1 nv1 =>
        rw [e1] at q
        simp only [Rs.bind] at q
        cases e2 : asgD b d2 nv1 with
        | ok u2 nv2 =>
          rw [e2] at q
          refine tG.by (pg_three c3) ⟨p, _, rfl, SqT.up st.ext hq, rfl, v1, [v2, v3], rfl, ?_⟩
          refine iha c1 st r1 e1 fun σ1 st1 o1 q1 => ⟨v2, [v3], rfl, ?_⟩
          refine ihb c2 st1 r2 e2 fun σ2 st2 o2 q2 => ⟨v3, [], rfl, ?_⟩
          refine ihc c2' st2 r3 q fun σ3 st3 o3 q3 => ⟨rfl, ?_⟩
          refine k σ3 st3 (fun a h => o1 a (o2 a (o3 a h))) fun j hj => ?_
          simp only [T.slots, List.mem_append, not_or] at hj
          exact ⟨(q3 j hj.2).1.trans ((q2 j hj.1.2).1.trans (q1 j hj.1.1).1), (q3 j hj.2).2.trans ((q2 j hj.1.2).2.trans (q1 j hj.1.1).2)⟩
        | exc c as nv1 => rw [e2] at q; cases q
        | stuck => rw [e2] at q; cases q
      | exc c as nv1 => rw [e1] at q; cases q
      | stuck => rw [e1] at q; cases q
    · rename_i h; cases h
    · cases hc
/-! ### what is walked -/
structure tI (C : Cfg) (W : WX) (tg iter : Expr)  (σ : L2.St) (H : Hp) (R : It → Hp → Prop) : Prop where
  un : ∀ X, AtE C W X → ∀ pins s, Inv X pins σ H s →
  wpAny (model X.prog X.w) X.A (eval iter X.env) (fun v s1 => wpAny (model X.prog X.w) X.A (pyIter v) (PIE X pins σ tg R) X.xe s1) X.xe s
theorem PIo {X : Cx} (h : AtE C W X) (tg it : Expr) : PI X tg it (tI C W tg it) := ⟨fun pins s σ H R I t => t.un X h pins s I⟩
theorem tI.by {tg it : Expr} {t : TI} {σ : L2.St} {H : Hp} {R : It → Hp → Prop} (pe : ∀ X, AtE C W X → PI X tg it t) (h : t σ H R) : tI C W tg it σ H R := ⟨fun X hX pins s I => (pe X hX).run pins s σ H R I h⟩
/-- J yields the data xs, wherever what is known still is -/
structure JOk (K : PySem.W.Frag) (M : Hp) (J : It) (xs : List D) : Prop where
  stop : ∀ M' H, Same M M' → Same M' H → J.stop xs.length H
  go : ∀ M' H i d, Same M M' → Same M' H → xs[i]? = some d → J.go i H ∧ ∀ x H', J.yld i H x H' → ∃ M'', Prim M' H M'' H' ∧ Rep K M'' d x
def SndI (C : Cfg) (W : WX) (tg iter : Expr) (f : Nv → Rs (List D)) : Prop := ∀ M H σ nv R, StR C.K M H σ nv → DoneX C W M H σ nv (f nv) (fun xs nv' M' H' => ∀ J, JOk C.K M' J xs → R J H') → tI C W tg iter σ H R
noncomputable def itf (Φ : Fn) (shs : Nat → Nat → Shape) (k : Ik) (es : List E) (nv : Nv) : Rs (List D) := (evOs Φ shs es nv).bind fun os nv1 => match items k os with
  | none => .stuck
  | some xs => .ok xs nv1
theorem jok_tup' {K : PySem.W.Frag} {M : Hp} {a : Addr} {vs : List V} {ds : List D} (h : GT.SqN K M a vs) (r : Reps K M ds vs) : JOk K M (Itt K a) ds := by
  refine ⟨fun M' H s1 s2 => ⟨vs, SqT.up (s1.trans s2) h, by rw [r.length]; exact Nat.le_refl _⟩, fun M' H i d s1 s2 hd => ?_⟩
  obtain ⟨v, h1, h2⟩ := r.get hd
  refine ⟨⟨vs, v, SqT.up (s1.trans s2) h, h1⟩, fun x H' y => ?_⟩
  obtain ⟨rfl, y⟩ := y
  have := y vs (SqT.up (s1.trans s2) h)
  rw [h1] at this
  cases this
  exact ⟨M', Prim.refl s2, Rep.mono s1 h2⟩
theorem jok_lst {K : PySem.W.Frag} {M : Hp} {a : Addr} {vs : List V} {ds : List D} (h : SqL K M a vs) (r : Reps K M ds vs) : JOk K M (Itl K a) ds := by
  refine ⟨fun M' H s1 s2 => ⟨vs, (s1.trans s2).seq h, by rw [r.length]; exact Nat.le_refl _⟩, fun M' H i d s1 s2 hd => ?_⟩
  obtain ⟨v, h1, h2⟩ := r.get hd
  refine ⟨⟨vs, v, (s1.trans s2).seq h, h1⟩, fun x H' y => ?_⟩
  obtain ⟨rfl, y⟩ := y
  have := y vs ((s1.trans s2).seq h)
  rw [h1] at this
  cases this
  exact ⟨M', Prim.refl s2, Rep.mono s1 h2⟩
theorem jok_rng {K : PySem.W.Frag} {M : Hp} (lo : Int) (n : Nat) : JOk K M (Itr lo n) ((List.range n).map fun (k : Nat) => D.int (lo + k)) := by
  refine ⟨fun M' H s1 s2 => ?_, fun M' H i d s1 s2 hd => ?_⟩
  · rw [List.length_map, List.length_range]; exact Nat.le_refl _
  · rw [List.getElem?_map] at hd
    by_cases hi : i < n
    · rw [List.getElem?_range hi] at hd
      cases hd
      refine ⟨hi, fun x H' y => ?_⟩
      obtain ⟨rfl, rfl⟩ := y
      exact ⟨M', Prim.refl s2, by simp [Rep]⟩
    · rw [List.getElem?_eq_none (by simpa using hi)] at hd
      cases hd
end
end G
namespace G
open PySem PySem.Spec PyProof.Rows L2
variable [Tb]
section
variable {C : Cfg} {W : WX} {M H M1 H1 : Hp} {σ : L2.St} {nv nv1 : Nv} {Φ : Fn} {shs : Nat → Nat → Shape}
/-! ### walks -/
def isGl (sc : Scope) (x : Str) : Bool := decide (sc.names.lookup x = some .globalImplicit)
theorem gl_of {X : Cx} {x : Str} (hX : AtE C W X) (h : isGl C.sc x = true) : Gl X x := by
  unfold isGl at h
  show X.env.kindOf x = _
  unfold PySem.Env.kindOf
  rw [hX.sc]
  exact of_decide_eq_true h
def isBrw : E → Bool
  | .brw _ => true
  | _ => false
theorem evOs_one {e : E} (h : isBrw e = false) (nv : Nv) : evOs Φ shs [e] nv = (evE Φ shs e nv).bind fun r nv1 => .ok [.inl r.frz] nv1 := by
  rw [evOs]
  have : argStep e nv (evE Φ shs e nv) (evOs Φ shs []) = (evE Φ shs e nv).bind fun r nv1 => (evOs Φ shs [] nv1).bind fun os nv2 => .ok (.inl r.frz :: os) nv2 := by
    cases e <;> first | rfl | (cases h)
  rw [this]
  congr 1
theorem evOs_len : ∀ {es : List E} {nv nv1 : Nv} {os : List (D ⊕ Nat)}, evOs Φ shs es nv = .ok os nv1 → os.length = es.length
  | [], nv, nv1, os, h => by
    rw [evOs] at h
    cases h
    rfl
  | e :: es, nv, nv1, os, h => by
    rw [evOs] at h
    by_cases hb : isBrw e = true
    · cases e <;> first | (cases hb; done) | skip
      simp only [argStep] at h
      split at h
      · cases q : evOs Φ shs es nv with
        | ok os' nv' =>
          rw [q] at h
          cases h
          simp [evOs_len q]
        | exc c as nv' => rw [q] at h; cases h
        | stuck => rw [q] at h; cases h
      · cases h
    · have hb : isBrw e = false := by simpa using hb
      have : argStep e nv (evE Φ shs e nv) (evOs Φ shs es) = (evE Φ shs e nv).bind fun r nv1 => (evOs Φ shs es nv1).bind fun os nv2 => .ok (.inl r.frz :: os) nv2 := by
        cases e <;> first | rfl | (cases hb)
      rw [this] at h
      cases q0 : evE Φ shs e nv with
      | ok r nv0 =>
        rw [q0] at h
        simp only [Rs.bind] at h
        cases q : evOs Φ shs es nv0 with
        | ok os' nv' =>
          rw [q] at h
          cases h
          simp [evOs_len q]
        | exc c as nv' => rw [q] at h; cases h
        | stuck => rw [q] at h; cases h
      | exc c as nv' => rw [q0] at h; cases h
      | stuck => rw [q0] at h; cases h
def plainSet : Expr → Bool
  | .Set _ _ _ => false
  | _ => true
theorem sndI_seq {tg it : Expr} {e : E} (hb : isBrw e = false) (h : SndE C W it (evE Φ shs e)) : SndI C W tg it (itf Φ shs .seq [e]) := by
  intro M H σ nv R st hd
  unfold itf at hd
  rw [evOs_one hb] at hd
  have body : ∀ {tt : TI} (wi : TI), wi = tt → True := fun _ _ => trivial
  cases ev : evE Φ shs e nv with
  | ok r nv1 =>
    rw [ev] at hd
    simp only [Rs.bind, items] at hd
    have run : ∀ {Q : VK}, (∀ v M1 H1, StR C.K M1 H1 σ nv1 → Rep C.K M1 r.frz v → Step M H (Own σ nv) M1 H1 (Own σ nv1) → Q v H1) → tE C W it σ H Q := fun {Q} k => by
      refine h M H σ nv Q st ?_
      rw [ev]
      intro v M' H' s st' rr
      obtain ⟨M2, st2, rp, s2, _⟩ := freeze st' rr s
      exact k v M2 H' st2 rp s2
    generalize r.frz = d at hd run
    cases d with
    | tup ds =>
      refine tI.by (t := iTup C.K (tE C W it)) (fun X hX => by rw [← hX.K]; exact pi_tup (PEo hX it)) ?_
      refine run fun v M1 H1 st1 rp s1 => ?_
      simp only [Rep] at rp
      obtain ⟨a, vs, rfl, h1, h2⟩ := rp
      exact ⟨a, rfl, ⟨vs, SqT.up st1.ext h1⟩, hd M1 H1 s1 st1 _ (jok_tup' h1 h2)⟩
    | lst ds =>
      refine tI.by (t := iList C.K (tE C W it)) (fun X hX => by rw [← hX.K]; exact pi_list (PEo hX it)) ?_
      refine run fun v M1 H1 st1 rp s1 => ?_
      simp only [Rep] at rp
      obtain ⟨a, vs, rfl, h1, h2⟩ := rp
      exact ⟨a, rfl, ⟨vs, SqL.of (st1.ext _ _ h1)⟩, hd M1 H1 s1 st1 _ (jok_lst (SqL.of h1) h2)⟩
    | scr ns =>
      refine tI.by (t := iList C.K (tE C W it)) (fun X hX => by rw [← hX.K]; exact pi_list (PEo hX it)) ?_
      refine run fun v M1 H1 st1 rp s1 => ?_
      simp only [Rep] at rp
      obtain ⟨a, rfl, h1⟩ := rp
      exact ⟨a, rfl, ⟨_, st1.ext.seq h1⟩, hd M1 H1 s1 st1 _ (jok_lst h1 Reps.of_ints)⟩
    | str z =>
      simp only [lstOf] at hd
      by_cases hz : z.length ≤ SZ
      · rw [if_pos hz] at hd
        refine tI.by (t := iStr (tE C W it)) (fun X hX => pi_str (PEo hX it)) ?_
        refine run fun v M1 H1 st1 rp s1 => ?_
        simp only [Rep] at rp
        subst rp
        refine ⟨z, rfl, hd M1 H1 s1 st1 _ ⟨fun M' H s1 s2 => ?_, fun M' H i d s1 s2 hd => ?_⟩⟩
        · show z.cps.size ≤ _
          simp
        · rw [List.getElem?_map] at hd
          cases q : z.cps.toList[i]? with
          | none => rw [q] at hd; cases hd
          | some c =>
            rw [q] at hd
            cases hd
            have q' : z.cps[i]? = some c := by simpa using q
            refine ⟨?_, fun x H' y => ?_⟩
            · show i < z.cps.size
              exact (Array.getElem?_eq_some_iff.mp q').1
            · obtain ⟨rfl, c', h1, rfl⟩ := y
              rw [q'] at h1
              cases h1
              exact ⟨M', Prim.refl s2, by simp [Rep]⟩
      · rw [if_neg hz] at hd; exact hd.elim
    | _ => exact hd.elim
  | exc c as nv1 =>
    rw [ev] at hd
    refine tI.by (t := iTup C.K (tE C W it)) (fun X hX => by rw [← hX.K]; exact pi_tup (PEo hX it)) ?_
    refine h M H σ nv _ st ?_
    rw [ev]
    exact hd
  | stuck => rw [ev] at hd; exact hd.elim
theorem b62_ok {i : Int} (h : b62 i = true) : -(2 ^ 62) ≤ i ∧ i < 2 ^ 62 := by
  unfold b62 at h
  simp only [Bool.and_eq_true, decide_eq_true_eq] at h
  omega
theorem sndI_rng1 {tg x : Expr} {e : E} {p pos : Pos} (hg : isGl C.sc "range" = true) (hm : C.mg "range" = none) (ns : noStar x = true) (h : SndA C W [x] (evOs Φ shs [e])) (hb : isBrw e = false) :
    SndI C W tg (.Call (.Name "range" p) [x] [] pos) (itf Φ shs .rng [e]) := by
  intro M H σ nv R st hd
  refine tI.by (fun X hX => pi_range1 (gl_of hX hg) (by rw [hX.mg]; exact hm) (PAo hX [x]) (by rw [star_cons ns]; rfl)) ?_
  unfold itf at hd
  refine h M H σ nv _ st ?_
  cases ev : evOs Φ shs [e] nv with
  | ok os nv1 =>
    rw [ev] at hd
    intro M1 H1 s1 st1 vs hv
    have hd := DoneX.later hd s1
    simp only [Rs.bind] at hd
    match os, hd, hv with
    | [.inl (.int n)], hd, hv =>
      simp only [items] at hd
      obtain ⟨v, vs', rfl, h1, h2⟩ := hv
      have h2 : vs' = [] := h2
      subst h2
      have h1 : Rep C.K M1 (.int n) v := h1
      simp only [Rep] at h1
      subst h1
      cases hb62 : b62 n with
      | true =>
        rw [hb62] at hd
        have b := b62_ok hb62
        refine ⟨n, rfl, b.1, b.2, hd M1 H1 (Step.refl _ _ _) st1 _ ?_⟩
        have := jok_rng (K := C.K) (M := M1) 0 n.toNat
        simpa using this
      | false => rw [hb62] at hd; exact hd.elim
    | [], hd, hv => exact hd.elim
    | [.inr _], hd, hv => exact hd.elim
    | [.inl .non], hd, hv => exact hd.elim
    | [.inl (.bl _)], hd, hv => exact hd.elim
    | [.inl (.str _)], hd, hv => exact hd.elim
    | [.inl (.tup _)], hd, hv => exact hd.elim
    | [.inl (.lst _)], hd, hv => exact hd.elim
    | [.inl (.scr _)], hd, hv => exact hd.elim
    | a :: b :: c, hd, hv =>
      have := hv.length
      -- one operand gives one
      rw [evOs_one hb] at ev
      cases q : evE Φ shs e nv with
      | ok r nv' => rw [q] at ev; cases ev
      | exc c as nv' => rw [q] at ev; cases ev
      | stuck => rw [q] at ev; cases ev
  | exc c as nv1 => rw [ev] at hd; exact hd
  | stuck => rw [ev] at hd; exact hd
end
end G
namespace G
open PySem PySem.Spec PyProof.Rows L2
variable [Tb]
section
variable {C : Cfg} {W : WX} {M H M1 H1 : Hp} {σ σ' : L2.St} {nv nv1 : Nv} {Φ : Fn} {shs : Nat → Nat → Shape}
/-! ### the slots of a block -/
theorem wipeN_length (nv : Nv) : ∀ vs : List Nat, (wipeN nv vs).length = nv.length
  | [] => rfl
  | v :: vs => by unfold wipeN; rw [List.length_set, wipeN_length nv vs]
theorem wipeN_some {i : Nat} {x : Sl} : ∀ {vs : List Nat}, (wipeN nv vs)[i]? = some (some x) → nv[i]? = some (some x) ∧ i ∉ vs
  | [], h => ⟨h, by simp⟩
  | v :: vs, h => by
    unfold wipeN at h
    by_cases hi : v = i
    · subst hi
      rw [List.getElem?_set] at h
      split at h
      · split at h <;> cases h
      · contradiction
    · rw [List.getElem?_set_ne hi] at h
      obtain ⟨h1, h2⟩ := wipeN_some h
      exact ⟨h1, by simp only [List.mem_cons, not_or]; exact ⟨fun e => hi e.symm, h2⟩⟩
theorem wipe_out' {i : Nat} : ∀ {vs : List Nat}, i ∉ vs → (wipe σ vs)[i]? = σ[i]?
  | [], h => rfl
  | v :: vs, h => by
    simp only [List.mem_cons, not_or] at h
    unfold wipe
    rw [List.getElem?_set_ne (fun e => h.1 e.symm)]
    exact wipe_out' h.2
theorem wipe_in {i : Nat} : ∀ {vs : List Nat}, i ∈ vs → i < σ.length → (wipe σ vs)[i]? = some none
  | v :: vs, h, hl => by
    unfold wipe
    by_cases e : v = i
    · subst e
      rw [List.getElem?_set_self (by rw [wipe_length]; exact hl)]
    · rw [List.getElem?_set_ne e]
      exact wipe_in ((List.mem_cons.mp h).resolve_left (fun z => e z.symm)) hl
theorem wipe_eq {vs : List Nat} (hl : σ'.length = σ.length) (h : ∀ j, j ∉ vs → σ'[j]? = σ[j]?) : wipe σ' vs = wipe σ vs := by
  apply List.ext_getElem?
  intro j
  by_cases hj : j ∈ vs
  · by_cases hb : j < σ.length
    · rw [wipe_in hj hb, wipe_in hj (by rw [hl]; exact hb)]
    · rw [List.getElem?_eq_none (by rw [wipe_length, hl]; omega), List.getElem?_eq_none (by rw [wipe_length]; omega)]
  · rw [wipe_out' hj, wipe_out' hj, h j hj]
theorem StR.wiped (st : StR C.K M H σ nv) (vs : List Nat) : StR C.K M H (wipe σ vs) (wipeN nv vs) ∧ ∀ a, Own (wipe σ vs) (wipeN nv vs) a → Own σ nv a := by
  refine ⟨⟨st.ext, by rw [wipeN_length, wipe_length, st.len], fun i s h => ?_, fun i j f g xs ys v h1 h2 h3 h4 => ?_, st.tb⟩, fun a h => ?_⟩
  · obtain ⟨h1, h2⟩ := wipeN_some h
    rw [wipe_out' h2]
    exact st.get i s h1
  · obtain ⟨h1, n1⟩ := wipeN_some h1
    obtain ⟨h2, n2⟩ := wipeN_some h2
    rw [wipe_out' n1] at h3
    rw [wipe_out' n2] at h4
    exact st.apart i j f g xs ys v h1 h2 h3 h4
  · rcases h with ⟨i, f, ds, h1, h2⟩ | h
    case inr => exact .inr h
    obtain ⟨h1, n1⟩ := wipeN_some h1
    rw [wipe_out' n1] at h2
    exact .inl ⟨i, f, ds, h1, h2⟩
theorem back_length (old : Nv) : ∀ vs : List Nat, (back old nv vs).length = nv.length
  | [] => rfl
  | v :: vs => by unfold back; rw [List.length_set, back_length old vs]
theorem back_some {old : Nv} {i : Nat} {x : Sl} : ∀ {vs : List Nat}, (back old nv vs)[i]? = some (some x) → (i ∈ vs ∧ old[i]? = some (some x)) ∨ (i ∉ vs ∧ nv[i]? = some (some x))
  | [], h => .inr ⟨by simp, h⟩
  | v :: vs, h => by
    unfold back at h
    by_cases hi : v = i
    · subst hi
      rw [List.getElem?_set] at h
      split at h
      · split at h
        · have h : old[v]?.join = some x := Option.some.inj h
          refine .inl ⟨by simp, ?_⟩
          cases q : old[v]? with
          | none => rw [q] at h; cases h
          | some o =>
            rw [q] at h
            have h : o = some x := h
            rw [h]
        · cases h
      · contradiction
    · rw [List.getElem?_set_ne hi] at h
      rcases back_some h with ⟨h1, h2⟩ | ⟨h1, h2⟩
      · exact .inl ⟨List.mem_cons_of_mem _ h1, h2⟩
      · exact .inr ⟨by simp only [List.mem_cons, not_or]; exact ⟨fun e => hi e.symm, h1⟩, h2⟩
/-- behind a block the slots are as before, but what is own may have changed -/
theorem StR.backed {M5 H5 : Hp} {nv5 : Nv} {vs : List Nat} (st : StR C.K M H σ nv) (st5 : StR C.K M5 H5 (wipe σ vs) nv5) (s : Step M H (Own (wipe σ vs) (wipeN nv vs)) M5 H5 (Own (wipe σ vs) nv5))
    (out : ∀ i s, nv5[i]? = some (some s) → i ∉ vs) : StR C.K M5 H5 σ (back nv nv5 vs) ∧ Step M H (Own σ nv) M5 H5 (Own σ (back nv nv5 vs)) := by
  have wo := (st.wiped vs).2
  -- an own list of a hidden slot
  have hid : ∀ i f ds a, i ∈ vs → nv[i]? = some (some (.lv f ds)) → σ[i]? = some (some (.ref a)) → ¬ Own (wipe σ vs) (wipeN nv vs) a := fun i f ds a hi h1 h2 z => by
    obtain ⟨v, e1, a', o, rfl, _, e3, e4⟩ := st.get i _ h1
    rw [h2] at e1
    cases e1
    rcases z with ⟨j, g, ys, h3, h4⟩ | z
    case inr => exact st.notTab e3 (fun _ => e4.ntbl) z
    obtain ⟨h3, n3⟩ := wipeN_some h3
    rw [wipe_out' n3] at h4
    have := st.apart i j f g ds ys _ h1 h3 h2 h4
    exact n3 (this ▸ hi)
  have keepL : ∀ i f ds, i ∈ vs → nv[i]? = some (some (.lv f ds)) → ∃ a xs, σ[i]? = some (some (.ref a)) ∧ M5 a = none ∧ H5 a = some xs ∧ LoR C.K M5 f ds xs ∧ ¬ Own (wipe σ vs) nv5 a := fun i f ds hi h => by
    obtain ⟨v, e1, a, xs, rfl, e2, e3, e4⟩ := st.get i _ h
    have no := hid i f ds a hi h e1
    refine ⟨a, xs, e1, ?_, s.keep _ _ e3 no, LoR.mono s.mm e4, fun z => ?_⟩
    · cases q : M5 a with
      | none => rfl
      | some o =>
        rcases s.mnew a o q with z | z | z
        · rw [e2] at z; cases z
        · exact (no z).elim
        · rw [e3] at z; cases z
    · rcases s.own a z with z | z
      · exact no z
      · rw [e3] at z; cases z
  refine ⟨⟨st5.ext, by rw [back_length, st5.len, wipe_length], fun i t h => ?_, fun i j f g xs ys v h1 h2 h3 h4 => ?_, st5.tb⟩, s.mm, fun a o h n => s.keep a o h fun z => n (wo a z), fun a h => ?_, s.dom, fun a o h => ?_⟩
  · rcases back_some h with ⟨hi, h1⟩ | ⟨hi, h1⟩
    · cases t with
      | val d =>
        obtain ⟨v, e1, e2⟩ := st.get i _ h1
        exact ⟨v, e1, Rep.mono s.mm e2⟩
      | fn m ds =>
        obtain ⟨v, e1, e2⟩ := st.get i _ h1
        exact ⟨v, e1, FnR.mono s.mm e2⟩
      | lv f ds =>
        obtain ⟨a, xs, e1, e2, e3, e4, _⟩ := keepL i f ds hi h1
        exact ⟨_, e1, a, xs, rfl, e2, e3, e4⟩
    · obtain ⟨v, e1, e2⟩ := st5.get i _ h1
      rw [wipe_out' hi] at e1
      exact ⟨v, e1, e2⟩
  · rcases back_some h1 with ⟨i1, h1⟩ | ⟨i1, h1⟩ <;> rcases back_some h2 with ⟨i2, h2⟩ | ⟨i2, h2⟩
    · exact st.apart i j f g xs ys v h1 h2 h3 h4
    · obtain ⟨a, zs, e1, _, _, _, no⟩ := keepL i f xs i1 h1
      rw [h3] at e1
      cases e1
      exact (no (.inl ⟨j, g, ys, h2, by rw [wipe_out' i2]; exact h4⟩)).elim
    · obtain ⟨a, zs, e1, _, _, _, no⟩ := keepL j g ys i2 h2
      rw [h4] at e1
      cases e1
      exact (no (.inl ⟨i, f, xs, h1, by rw [wipe_out' i1]; exact h3⟩)).elim
    · exact st5.apart i j f g xs ys v h1 h2 (by rw [wipe_out' i1]; exact h3) (by rw [wipe_out' i2]; exact h4)
  · rcases h with ⟨i, f, ds, h1, h2⟩ | h
    case inr => exact .inl (.inr h)
    rcases back_some h1 with ⟨hi, h1⟩ | ⟨hi, h1⟩
    · exact .inl (.inl ⟨i, f, ds, h1, h2⟩)
    · rcases s.own a (.inl ⟨i, f, ds, h1, by rw [wipe_out' hi]; exact h2⟩) with z | z
      · exact .inl (wo a z)
      · exact .inr z
  · rcases s.mnew a o h with z | z | z
    · exact .inl z
    · exact .inr (.inl (wo a z))
    · exact .inr (.inr z)
/-! ### list comprehensions -/
/-- the configuration of a block -/
def tgOk (scope : Scope) (x : Str) : Bool := decide (scope.names.lookup x = some .local) || decide (scope.names.lookup x = some .cell)
def Cfg.blk (C : Cfg) (scope : Scope) : Cfg := { C with sc := relS scope C.sc, st := tgOk scope, cd := none }
abbrev W0 : WX := fun _ _ _ _ => False
theorem AtE.blk {X : Cx} (hX : AtE C W X) (scope : Scope) (s : Shared) (H : Hp) (D : Addr) (cl : List (Str × Addr)) (fp : List Addr) : AtE (C.blk scope) W0 (X.blk s H scope (compEnvC scope cl D X.env) fp) := by
  have esc : (compEnvC scope cl D X.env).scope = relS scope C.sc := by rw [← hX.sc]; rfl
  refine ⟨hX.prog, hX.w, hX.K, hX.mg, hX.base, hX.N, esc, hX.calm, hX.room, hX.nd, takes0, fun x hx => ?_, fun q h => nomatch h⟩
  rcases (Bool.or_eq_true _ _).mp hx with hx | hx
  · have hx : scope.names.lookup x = some .local := of_decide_eq_true hx
    have : (compEnvC scope cl D X.env).scope.names.lookup x = some .local := by
      rw [esc]
      exact lookup_relS_keep (by decide) hx
    exact ⟨.inl this, .inr this⟩
  · have hx : scope.names.lookup x = some .cell := of_decide_eq_true hx
    have : (compEnvC scope cl D X.env).scope.names.lookup x = some .cell := by
      rw [esc]
      exact lookup_relS_keep (by decide) hx
    exact ⟨.inr this, .inl (by simp [hx])⟩
structure tC1 (C : Cfg) (W : WX) (xs : List Expr)  (σ : L2.St) (H : Hp) (Q : Bool → Hp → Prop) : Prop where
  un : ∀ X, AtE C W X → ∀ pins s, Inv X pins σ H s →
  wpAny (model X.prog X.w) X.A (forIn xs true fun c r => if r = true then do let ok ← isTrue c X.env (eval c X.env); pure (ForInStep.yield ok) else pure (ForInStep.yield r)) (TP X pins σ Q) X.xe s
theorem PTso {X : Cx} (h : AtE C W X) (xs : List Expr) : PTs X xs (tC1 C W xs) := ⟨fun pins s σ H Q I t => t.un X h pins s I⟩
def SndC (C : Cfg) (W : WX) (xs : List Expr) (f : Nv → Rs Bool) : Prop := ∀ M H σ nv (Q : Bool → Hp → Prop), StR C.K M H σ nv → DoneX C W M H σ nv (f nv) (fun b nv' M' H' => Q b H') → tC1 C W xs σ H Q
theorem sndC_nil : SndC C W [] (evCs Φ shs []) := by
  intro M H σ nv Q st hd
  refine ⟨fun X hX pins s I => ?_⟩
  rw [evCs] at hd
  exact pts_nil.run pins s σ H Q I (hd M H (Step.refl _ _ _) st)
theorem sndC_one {x : Expr} {c : E} (h : SndT C W x (evE Φ shs c)) : SndC C W [x] (evCs Φ shs [c]) := by
  intro M H σ nv Q st hd
  refine ⟨fun X hX pins s I => ?_⟩
  refine (pts_one (PTo hX x)).run pins s σ H Q I ?_
  refine h M H σ nv Q st ?_
  rw [evCs] at hd
  unfold tst
  cases q : evE Φ shs c nv with
  | ok r nv1 =>
    rw [q] at hd
    simp only [Rs.bind] at hd ⊢
    cases r with
    | val d =>
      cases d with
      | bl k =>
        cases k with
        | true => rw [evCs] at hd; exact hd
        | false => exact hd
      | _ => exact hd
    | own ds => exact hd
  | exc c as nv1 => rw [q] at hd; exact hd
  | stuck => rw [q] at hd; exact hd
theorem DoneX.nox {α : Type} {res : Rs α} {post : α → Nv → Hp → Hp → Prop} (h : DoneX C W M H σ nv res.nox post) {W' : WX} : DoneX C W' M H σ nv res post := by
  cases res with
  | ok a e => exact h
  | exc c as e => exact h.elim
  | stuck => exact h
noncomputable def turnOf (Φ : Fn) (shs : Nat → Nat → Shape) (t : T) (cs : List E) (elt : E) (own : List Nat) (d : D) (nv : Nv) : Rs (Option D) := (asgD t d nv).bind fun _ nv2 => (evCs Φ shs cs nv2).bind fun b nv3 =>
  if b = true then (evE Φ shs elt nv3).bind fun r nv4 => .ok (some r.frz) (wipeN nv4 own) else .ok none (wipeN nv3 own)
end
end G
namespace G
open PySem PySem.Spec PyProof.Rows L2
variable [Tb]
section
variable {C : Cfg} {W : WX} {M H M1 H1 : Hp} {σ σ' : L2.St} {nv nv1 : Nv} {Φ : Fn} {shs : Nat → Nat → Shape}
theorem Step.widen {O O' : Addr → Prop} {M' H' : Hp} {O2 O2' : Addr → Prop} (s : Step M H O M' H' O') (h1 : ∀ a, O a → O2 a) (h2 : ∀ a, O2' a → O' a) : Step M H O2 M' H' O2' :=
  ⟨s.mm, fun a o h n => s.keep a o h fun z => n (h1 a z), fun a h => (s.own a (h2 a h)).imp (h1 a) id, s.dom, fun a o h => (s.mnew a o h).imp id (Or.imp (h1 a) id)⟩
theorem asgD_ok : ∀ (t : T) {d : D} {nv : Nv} {r : Rs Unit}, asgD t d nv = r → r = .stuck ∨ ∃ nv', r = .ok () nv' ∧ nv'.length = nv.length
  | .nm i, d, nv, r, h => by
    simp only [asgD, stSlot] at h
    split at h
    · exact .inl h.symm
    · exact .inr ⟨_, h.symm, by simp⟩
    · exact .inl h.symm
  | .two a b, d, nv, r, h => by
    cases d with
    | tup ds =>
      match ds, h with
      | [x, y], h =>
        simp only [asgD] at h
        rcases asgD_ok a (d := x) (nv := nv) rfl with e | ⟨nv1, e, l1⟩
        · rw [e] at h; exact .inl h.symm
        · rw [e] at h
          simp only [Rs.bind] at h
          rcases asgD_ok b (d := y) (nv := nv1) rfl with e2 | ⟨nv2, e2, l2⟩
          · rw [e2] at h; exact .inl h.symm
          · rw [e2] at h; exact .inr ⟨nv2, h.symm, l2.trans l1⟩
      | [], h => exact .inl h.symm
      | [_], h => exact .inl h.symm
      | _ :: _ :: _ :: _, h => exact .inl h.symm
    | _ => exact .inl h.symm
  | .nms is, d, nv, r, h => by
    have go : ∀ (is : List Nat) (ds : List D) (nv : Nv) (r : Rs Unit), asgNs is ds nv = r → r = .stuck ∨ ∃ nv', r = .ok () nv' ∧ nv'.length = nv.length := by
      intro is
      induction is with
      | nil =>
        intro ds nv r h
        cases ds with
        | nil => exact .inr ⟨nv, h.symm, rfl⟩
        | cons d ds => exact .inl h.symm
      | cons i is ih =>
        intro ds nv r h
        cases ds with
        | nil => exact .inl h.symm
        | cons d ds =>
          simp only [asgNs, stSlot] at h
          split at h
          · exact .inl h.symm
          · rcases ih ds _ _ rfl with e | ⟨nv', e, l⟩
            · simp only [Rs.bind] at h; rw [e] at h; exact .inl h.symm
            · simp only [Rs.bind] at h; rw [e] at h; exact .inr ⟨nv', h.symm, by rw [l]; simp⟩
          · exact .inl h.symm
    cases d with
    | tup ds => exact go is ds nv r h
    | _ => exact .inl h.symm
  | .three a b c, d, nv, r, h => by
    cases d with
    | tup ds =>
      match ds, h with
      | [x, y, z], h =>
        simp only [asgD] at h
        rcases asgD_ok a (d := x) (nv := nv) rfl with e | ⟨nv1, e, l1⟩
        · rw [e] at h; exact .inl h.symm
        · rw [e] at h
          simp only [Rs.bind] at h
          rcases asgD_ok b (d := y) (nv := nv1) rfl with e2 | ⟨nv2, e2, l2⟩
          · rw [e2] at h; exact .inl h.symm
          · rw [e2] at h
            simp only [Rs.bind] at h
            rcases asgD_ok c (d := z) (nv := nv2) rfl with e3 | ⟨nv3, e3, l3⟩
            · rw [e3] at h; exact .inl h.symm
            · rw [e3] at h; exact .inr ⟨nv3, h.symm, l3.trans (l2.trans l1)⟩
      | [], h => exact .inl h.symm
      | [_], h => exact .inl h.symm
      | [_, _], h => exact .inl h.symm
      | _ :: _ :: _ :: _ :: _, h => exact .inl h.symm
    | _ => exact .inl h.symm
theorem kept_at {O O' : Addr → Prop} {M' H' : Hp} {a : Addr} {o : HO} (s : Step M H O M' H' O') (hH : H a = some o) (hM : M a = none) (no : ¬ O a) : H' a = some o ∧ M' a = none ∧ ¬ O' a := by
  refine ⟨s.keep a o hH no, ?_, fun z => ?_⟩
  · cases q : M' a with
    | none => rfl
    | some u =>
      rcases s.mnew a u q with z | z | z
      · rw [hM] at z; cases z
      · exact (no z).elim
      · rw [hH] at z; cases z
  · rcases s.own a z with z | z
    · exact no z
    · rw [hH] at z; cases z
theorem wipeN_out {i : Nat} {s : Sl} {nv : Nv} {vs : List Nat} (h : (wipeN nv vs)[i]? = some (some s)) : i ∉ vs := (wipeN_some h).2
/-- the heap without the list that is being made -/
def hide (D0 : Addr) (H : Hp) : Hp := fun a => if a = D0 then none else H a
theorem hide_at {D0 : Addr} {H : Hp} : hide D0 H D0 = none := if_pos rfl
theorem hide_ne {D0 a : Addr} {H : Hp} (h : a ≠ D0) : hide D0 H a = H a := if_neg h
theorem hide_some {D0 a : Addr} {H : Hp} {o : HO} (h : hide D0 H a = some o) : a ≠ D0 ∧ H a = some o := by
  by_cases e : a = D0
  · subst e; rw [hide_at] at h; cases h
  · rw [hide_ne e] at h; exact ⟨e, h⟩
theorem hide_none {D0 a : Addr} {H : Hp} (h : H a = none) : hide D0 H a = none := by
  by_cases e : a = D0
  · subst e; exact hide_at
  · rw [hide_ne e]; exact h
theorem hide_upd {D0 : Addr} {H : Hp} {o : HO} : hide D0 (upd H D0 o) = hide D0 H := by
  funext a
  by_cases e : a = D0
  · subst e; rw [hide_at, hide_at]
  · rw [hide_ne e, hide_ne e, upd_ne e]
theorem Step.hide {O O' : Addr → Prop} {M' H' : Hp} {D0 : Addr} (s : Step M H O M' H' O') : Step M (hide D0 H) O M' (hide D0 H') O' :=
  ⟨s.mm, fun a o h n => by
    obtain ⟨h1, h2⟩ := hide_some h
    rw [hide_ne h1]
    exact s.keep a o h2 n, fun a h => (s.own a h).imp id hide_none, fun a h => by
    by_cases e : a = D0
    · subst e; exact hide_at
    · rw [hide_ne e] at h; exact hide_none (s.dom a h), fun a o h => (s.mnew a o h).imp id (Or.imp id hide_none)⟩
theorem Step.show {O : Addr → Prop} {D0 : Addr} : Step M (G.hide D0 H) O M H O :=
  ⟨Same.refl _, fun a o h _ => (hide_some h).2, fun a h => .inl h, fun a h => hide_none h, fun a o h => .inl h⟩
/-- a turn of a comprehension -/
theorem turn_ok {scope : Scope} {t : T} {cs : List E} {elt : E} {own : List Nat} {tg ex : Expr} {ifs : List Expr} {x : V} {d : D} {o : Option D → Nv → Rs (List D)} {post : List D → Nv → Hp → Hp → Prop} {D0 : Addr} {acc : List D} {vs : List V} {Nx : Hp → Prop}
    (ht : chkT1 (C.blk scope).N (C.blk scope).st t tg = true) (hts : ∀ i ∈ t.slots, i ∈ own) (hc : SndC (C.blk scope) W0 ifs (evCs Φ shs cs)) (he : SndE (C.blk scope) W0 ex (evE Φ shs elt))
    (st : StR C.K M H (wipe σ own) nv) (r : Rep C.K M d x) (hD : H D0 = some (.lst vs)) (hDr : Reps C.K M acc vs) (hDn : M D0 = none) (hDo : ¬ Own (wipe σ own) nv D0)
    (hd : DoneX (C.blk scope) W0 M (hide D0 H) (wipe σ own) nv ((turnOf Φ shs t cs elt own d nv).bind o).nox post)
    (hz : ∀ a nv5 M5 H5, DoneX (C.blk scope) W0 M5 (hide D0 H5) (wipe σ own) nv5 (o (some a) nv5).nox post → acc.length < SZ)
    (hS : ∀ y w nv5 M5 H5, StR C.K M5 H5 (wipe σ own) nv5 → Step M H (Own (wipe σ own) nv) M5 H5 (Own (wipe σ own) nv5) → DoneX (C.blk scope) W0 M5 (hide D0 H5) (wipe σ own) nv5 (o (some y) nv5).nox post →
      M5 D0 = none → ¬ Own (wipe σ own) nv5 D0 → (∀ i s, nv5[i]? = some (some s) → i ∉ own) → H5 D0 = some (.lst vs) → Reps C.K M5 acc vs → Rep C.K M5 y w → Nx (upd H5 D0 (.lst (vs ++ [w]))))
    (hN : ∀ nv5 M5 H5, StR C.K M5 H5 (wipe σ own) nv5 → Step M H (Own (wipe σ own) nv) M5 H5 (Own (wipe σ own) nv5) → DoneX (C.blk scope) W0 M5 (hide D0 H5) (wipe σ own) nv5 (o none nv5).nox post →
      M5 D0 = none → ¬ Own (wipe σ own) nv5 D0 → (∀ i s, nv5[i]? = some (some s) → i ∉ own) → H5 D0 = some (.lst vs) → Reps C.K M5 acc vs → Nx H5) :
    tG (C.blk scope) W0 tg x (wipe σ own) H fun σ2 H2 => wipe σ2 own = wipe σ own ∧ tC1 (C.blk scope) W0 ifs σ2 H2 fun b H3 =>
      if b = true then tE (C.blk scope) W0 ex σ2 H3 fun y H4 => ∃ acc, H4 D0 = some (.lst acc) ∧ acc.length < sizeLine ∧ Nx (upd H4 D0 (.lst (acc ++ [y]))) else Nx H3 := by
  unfold turnOf at hd
  rcases asgD_ok t (d := d) (nv := nv) rfl with e1 | ⟨nv2, e1, ln⟩
  · rw [e1] at hd; exact hd.elim
  · rw [e1] at hd
    simp only [Rs.bind] at hd
    refine sndG t (C := C.blk scope) (W := W0) ht st r e1 fun σ2 st2 o2 q2 => ?_
    have ew : wipe σ2 own = wipe σ own := by
      have : wipe σ2 own = wipe (wipe σ own) own := by
        refine wipe_eq ?_ fun j hj => (q2 j fun z => hj (hts j z)).1
        rw [← st2.len, ln, st.len]
      rw [this]
      exact wipe_eq (wipe_length _ _) fun j hj => wipe_out' hj
    refine ⟨ew, ?_⟩
    have fin : ∀ {nv4 : Nv} {M4 H4 : Hp}, StR C.K M4 H4 σ2 nv4 → Step M H (Own σ2 nv2) M4 H4 (Own σ2 nv4) → StR C.K M4 H4 (wipe σ own) (wipeN nv4 own) ∧ Step M H (Own (wipe σ own) nv) M4 H4 (Own (wipe σ own) (wipeN nv4 own)) := fun {nv4 M4 H4} st4 s4 => by
      obtain ⟨h1, h2⟩ := st4.wiped own
      rw [ew] at h1 h2
      exact ⟨h1, s4.widen o2 h2⟩
    cases e2 : evCs Φ shs cs nv2 with
    | stuck => rw [e2] at hd; exact hd.elim
    | exc c as nv3 => rw [e2] at hd; exact hd.elim
    | ok b nv3 =>
      rw [e2] at hd
      simp only [Rs.bind] at hd
      refine hc M H σ2 nv2 _ st2 ?_
      rw [e2]
      intro M3 H3 s3 st3
      cases b with
      | false =>
        rw [if_neg (by decide)] at hd ⊢
        obtain ⟨w1, w2⟩ := fin st3 s3
        obtain ⟨k1, k2, k3⟩ := kept_at w2 hD hDn hDo
        exact hN _ M3 H3 w1 w2 (DoneX.later hd w2.hide) k2 k3 (fun i s h => wipeN_out h) k1 (Reps.mono w2.mm hDr)
      | true =>
        rw [if_pos rfl] at hd ⊢
        refine he M3 H3 σ2 nv3 _ st3 ?_
        cases e3 : evE Φ shs elt nv3 with
        | stuck => rw [e3] at hd; exact hd.elim
        | exc c as nv4 => rw [e3] at hd; exact hd.elim
        | ok rr nv4 =>
          rw [e3] at hd
          simp only [Rs.bind] at hd
          intro v M4 H4 s4 st4 r4
          obtain ⟨M5, st5, rp, s5, _⟩ := freeze st4 r4 s4
          obtain ⟨w1, w2⟩ := fin st5 (s3.trans s5)
          obtain ⟨k1, k2, k3⟩ := kept_at w2 hD hDn hDo
          have hd5 := DoneX.later hd (w2.hide (D0 := D0))
          have lz := hz _ _ _ H4 hd5
          refine ⟨vs, k1, ?_, hS _ v _ M5 H4 w1 w2 hd5 k2 k3 (fun i s h => wipeN_out h) k1 (Reps.mono w2.mm hDr) rp⟩
          rw [← hDr.length, sizeLine_eq]
          exact lz
def blkOk (N : List Str) (sc scope : Scope) (own : List Nat) : Bool := blkC N sc scope (own.map fun i => (N.getD i "", i))
theorem Prim.step {M' H' : Hp} (p : Prim M H M' H') (O : Addr → Prop) : Step M H O M' H' O :=
  ⟨p.mm, fun a o h _ => p.hh _ _ h, fun a h => .inl h, fun a h => (by
    cases q : H a with
    | none => rfl
    | some o => rw [p.hh _ _ q] at h; cases h), fun a o h => (p.mnew a o h).imp id .inr⟩
theorem comp_reads {scope : Scope} {t : T} {k : Ik} {es cs : List E} {elt : E} {own : List Nat} {tg it ex : Expr} {ifs : List Expr}
    (ht : chkT1 C.N (tgOk scope) t tg = true) (hts : ∀ i ∈ t.slots, i ∈ own)
    (hi : SndI C W tg it (itf Φ shs k es)) (hc : SndC (C.blk scope) W0 ifs (evCs Φ shs cs)) (he : SndE (C.blk scope) W0 ex (evE Φ shs elt)) {Q : VK} (st : StR C.K M H σ nv) (hd : DoneE C W M H σ nv (evE Φ shs (.comp t k es cs elt own) nv) Q) :
    tLc (tI C W tg it) (tG (C.blk scope) W0 tg) (tC1 (C.blk scope) W0 ifs) (tE (C.blk scope) W0 ex) own σ H Q := by
  · rw [evE] at hd
    refine hi M H σ nv _ st ?_
    unfold itf
    cases e1 : evOs Φ shs es nv with
    | stuck => rw [e1] at hd; exact hd.elim
    | exc c as nv1 => rw [e1] at hd; exact hd
    | ok os nv1 =>
      rw [e1] at hd
      simp only [Rs.bind] at hd ⊢
      cases e2 : items k os with
      | none => rw [e2] at hd; exact hd.elim
      | some xs =>
        rw [e2] at hd
        simp only [Rs.bind] at hd ⊢
        intro M1 H1 s1 st1 J jok D0 hD0
        have hd := DoneE.later hd s1
        have mD0 : M1 D0 = none := by
          cases q : M1 D0 with
          | none => rfl
          | some o => rw [st1.ext _ _ q] at hD0; cases hD0
        have oD0 : ¬ Own σ nv1 D0 := fun z => by
          obtain ⟨_, vs, h⟩ := st1.own_at z
          rw [hD0] at h; cases h
        -- what the whole is to reach
        let post : List D → Nv → Hp → Hp → Prop := fun ys nv5 M5 H5 => (∀ i s, nv5[i]? = some (some s) → i ∉ own) → Step M1 H1 (Own (wipe σ own) (wipeN nv1 own)) M5 H5 (Own (wipe σ own) nv5) → ∀ vs, H5 D0 = some (.lst vs) → Reps C.K M5 ys vs → M5 D0 = none → ¬ Own (wipe σ own) nv5 D0 → Q (.ref D0) H5
        have hd0 : DoneX (C.blk scope) W0 M1 H1 (wipe σ own) (wipeN nv1 own) (compLoop (turnOf Φ shs t cs elt own) xs [] (wipeN nv1 own)).nox post := by
          have hd' : DoneE C W M1 H1 σ nv1 ((compLoop (turnOf Φ shs t cs elt own) xs [] (wipeN nv1 own)).nox.bind fun ys nv5 => .ok (.own ys) (back nv1 nv5 own)) Q := hd
          cases e3 : compLoop (turnOf Φ shs t cs elt own) xs [] (wipeN nv1 own) with
          | stuck => rw [e3] at hd'; exact hd'
          | exc c as nv5 => rw [e3] at hd'; exact hd'
          | ok ys nv5 =>
            rw [e3] at hd'
            intro M5 H5 s5 st5 out s5' vs h1 h2 h3 h4
            obtain ⟨b1, b2⟩ := st1.backed (vs := own) st5 s5' out
            have oB : ¬ Own σ (back nv1 nv5 own) D0 := fun z => by
              rcases z with ⟨i, f, ds, h5, h6⟩ | z
              case inr => exact oD0 (.inr z)
              rcases back_some h5 with ⟨hi, h5⟩ | ⟨hi, h5⟩
              · exact oD0 (.inl ⟨i, f, ds, h5, h6⟩)
              · exact h4 (.inl ⟨i, f, ds, h5, by rw [wipe_out' hi]; exact h6⟩)
            refine hd' _ M5 H5 ⟨b2.mm, b2.keep, fun a h => ?_, b2.dom, b2.mnew⟩ b1 ⟨D0, vs, rfl, h1, h3, oB, h2⟩
            rcases h with z | z
            · exact b2.own a z
            · have z' : V.ref D0 = V.ref a := z
              injection z' with z'
              subst z'
              exact .inr hD0
        have cext : Same M1 (upd H1 D0 (.lst [])) := fun a o h => by
          rw [upd_ne (ne_of_none h mD0)]
          exact st1.ext _ _ h
        obtain ⟨wst, wown⟩ := st1.wiped own
        have smH : Same H1 (upd H1 D0 (.lst [])) := same_upd hD0
        have st2 : StR C.K M1 (upd H1 D0 (.lst [])) (wipe σ own) (wipeN nv1 own) := wst.grow (Same.refl _) (fun a o h => smH _ _ h) cext (fun a h => (wst.own_at h).1)
        have sD : Step M1 H1 (Own (wipe σ own) (wipeN nv1 own)) M1 (upd H1 D0 (.lst [])) (Own (wipe σ own) (wipeN nv1 own)) :=
          ⟨Same.refl _, fun a o h _ => smH _ _ h, fun a h => .inl h, fun a h => (by
            by_cases ha : a = D0
            · rw [ha]; exact hD0
            · rw [upd_ne ha] at h; exact h), fun a o h => .inl h⟩
        refine ⟨fun i m H' => m = xs.length - i ∧ i ≤ xs.length ∧ ∃ M' nv' acc vs, StR C.K M' H' (wipe σ own) nv' ∧ Step M1 H1 (Own (wipe σ own) (wipeN nv1 own)) M' H' (Own (wipe σ own) nv') ∧ H' D0 = some (.lst vs) ∧ Reps C.K M' acc vs ∧ M' D0 = none ∧ ¬ Own (wipe σ own) nv' D0 ∧
            (∀ i s, nv'[i]? = some (some s) → i ∉ own) ∧ DoneX (C.blk scope) W0 M' (hide D0 H') (wipe σ own) nv' (compLoop (turnOf Φ shs t cs elt own) (xs.drop i) acc nv').nox post,
          ⟨xs.length, by simp, Nat.zero_le _, M1, wipeN nv1 own, [], [], st2, sD, upd_same, by simp [Reps], mD0, fun z => oD0 (wown _ z), fun i s h => wipeN_out h, by
            rw [hide_upd]
            simpa using DoneX.later hd0 (Step.mk (Same.refl _) (fun a o h _ => by rw [hide_ne (ne_of_none h hD0)]; exact h) (fun a h => .inl h) (fun a h => by
              by_cases e : a = D0
              · rw [e]; exact hD0
              · rw [hide_ne e] at h; exact h) (fun a o h => .inl h))⟩, ?_⟩
        rintro i m H' ⟨rfl, hile, M', nv', acc, vs, st', s', hD, hDr, hDn, hDo, out, hdl⟩
        by_cases hlt : i < xs.length
        · right
          have hx : xs[i]? = some xs[i] := List.getElem?_eq_getElem hlt
          obtain ⟨g1, g2⟩ := jok.go M' H' i xs[i] s'.mm st'.ext hx
          refine ⟨g1, fun H'' => ∃ m', m' < xs.length - i ∧ m' = xs.length - (i + 1) ∧ i + 1 ≤ xs.length ∧ ∃ M' nv' acc vs, StR C.K M' H'' (wipe σ own) nv' ∧ Step M1 H1 (Own (wipe σ own) (wipeN nv1 own)) M' H'' (Own (wipe σ own) nv') ∧ H'' D0 = some (.lst vs) ∧ Reps C.K M' acc vs ∧ M' D0 = none ∧ ¬ Own (wipe σ own) nv' D0 ∧
            (∀ i s, nv'[i]? = some (some s) → i ∉ own) ∧ DoneX (C.blk scope) W0 M' (hide D0 H'') (wipe σ own) nv' (compLoop (turnOf Φ shs t cs elt own) (xs.drop (i + 1)) acc nv').nox post, fun H'' h => h, fun x H3 hy => ?_⟩
          obtain ⟨M3, p3, r3⟩ := g2 x H3 hy
          have st3 : StR C.K M3 H3 (wipe σ own) nv' := st'.grow p3.mm (fun a o h => p3.hh _ _ h) p3.ext (fun a h => by
            cases q : M3 a with
            | none => rfl
            | some o =>
              obtain ⟨h1, ws, h2⟩ := st'.own_at h
              rcases p3.mnew a o q with z | z
              · rw [h1] at z; cases z
              · rw [h2] at z; cases z)
          have s3 : Step M' H' (Own (wipe σ own) nv') M3 H3 (Own (wipe σ own) nv') := p3.step _
          have ed : xs.drop i = xs[i] :: xs.drop (i + 1) := (List.drop_eq_getElem_cons hlt)
          rw [ed] at hdl
          obtain ⟨k1, k2, k3⟩ := kept_at s3 hD hDn hDo
          have hdl3 := DoneX.later hdl (s3.hide (D0 := D0))
          simp only [compLoop] at hdl3
          refine turn_ok (o := fun o nv1 => match o with
              | some y => if acc.length < SZ then compLoop (turnOf Φ shs t cs elt own) (xs.drop (i + 1)) (acc ++ [y]) nv1 else .stuck
              | none => compLoop (turnOf Φ shs t cs elt own) (xs.drop (i + 1)) acc nv1) (post := post) (D0 := D0) (acc := acc) (vs := vs) ht hts hc he st3 r3 k1 (Reps.mono p3.mm hDr) k2 k3 hdl3 (fun a nv5 M5 H5 h => ?_) (fun y w nv5 M5 H5 st5 s5 hd5 m5 o5 out5 h5 r5 ry => ?_) (fun nv5 M5 H5 st5 s5 hd5 m5 o5 out5 h5 r5 => ?_)
          · by_cases hz : acc.length < SZ
            · exact hz
            · simp only [if_neg hz] at h; exact h.elim
          · have lz : acc.length < SZ := by
              by_cases hz : acc.length < SZ
              · exact hz
              · simp only [if_neg hz] at hd5; exact hd5.elim
            simp only [if_pos lz] at hd5
            have e5 : Same M5 (upd H5 D0 (.lst (vs ++ [w]))) := fun a o h => by
              rw [upd_ne (ne_of_none h m5)]
              exact st5.ext _ _ h
            have st6 : StR C.K M5 (upd H5 D0 (.lst (vs ++ [w]))) (wipe σ own) nv5 := by
              refine ⟨e5, st5.len, fun j t h => ?_, st5.apart, fun p hp => ⟨(st5.tb p hp).1, tabS_upd (st5.tb p hp).2 h5 (fun _ z => nomatch z) (fun _ z => nomatch z)⟩⟩
              obtain ⟨v, e1, e2⟩ := st5.get j t h
              refine ⟨v, e1, ?_⟩
              cases t with
              | val d => exact e2
              | fn m ds => exact e2
              | lv f ds =>
                obtain ⟨a, zs, rfl, e3, e4, e6⟩ := e2
                have : a ≠ D0 := fun z => o5 (z ▸ .inl ⟨j, f, ds, h, e1⟩)
                exact ⟨a, zs, rfl, e3, by rw [upd_ne this]; exact e4, e6⟩
            have s6 : Step M1 H1 (Own (wipe σ own) (wipeN nv1 own)) M5 (upd H5 D0 (.lst (vs ++ [w]))) (Own (wipe σ own) nv5) := by
              have s6 := s'.trans (s3.trans s5)
              exact ⟨s6.mm, fun a o h n => by rw [upd_ne (ne_of_none h hD0)]; exact s6.keep a o h n, s6.own, fun a h => (by
                by_cases ha : a = D0
                · rw [ha]; exact hD0
                · rw [upd_ne ha] at h; exact s6.dom a h), s6.mnew⟩
            refine ⟨xs.length - (i + 1), by omega, rfl, hlt, M5, nv5, acc ++ [y], vs ++ [w], st6, s6, upd_same, r5.append (Reps.one ry), m5, o5, out5, ?_⟩
            rw [hide_upd]
            exact hd5
          · exact ⟨xs.length - (i + 1), by omega, rfl, hlt, M5, nv5, acc, vs, st5, s'.trans (s3.trans s5), h5, r5, m5, o5, out5, hd5⟩
        · have ei : i = xs.length := by omega
          subst ei
          left
          refine ⟨jok.stop M' H' s'.mm st'.ext, ?_⟩
          rw [List.drop_length] at hdl
          exact hdl M' H' Step.show st' out s' vs hD hDr hDn hDo
theorem snd_comp {scope : Scope} {t : T} {k : Ik} {es cs : List E} {elt : E} {own : List Nat} {tg it ex : Expr} {ifs : List Expr} {pos : Pos}
    (ok : blkOk C.N C.sc scope own = true) (ht : chkT1 C.N (tgOk scope) t tg = true) (hts : ∀ i ∈ t.slots, i ∈ own) (ps : plainSet it = true)
    (hi : SndI C W tg it (itf Φ shs k es)) (hc : SndC (C.blk scope) W0 ifs (evCs Φ shs cs)) (he : SndE (C.blk scope) W0 ex (evE Φ shs elt)) :
    SndE C W (.ListComp ex [⟨tg, it, ifs, 0⟩] scope pos) (evE Φ shs (.comp t k es cs elt own)) := by
  intro M H σ nv Q st hd
  have eo : (own.map fun i => (C.N.getD i "", i)).map (·.2) = own := by
    rw [List.map_map]
    exact List.map_id' own
  refine tE.by (t := tLc (tI C W tg it) (tG (C.blk scope) W0 tg) (tC1 (C.blk scope) W0 ifs) (tE (C.blk scope) W0 ex) own) (fun X hX => ?_) (comp_reads ht hts hi hc he st hd)
  have := pe_lc (X := X) (pos := pos) (own := own.map fun i => (C.N.getD i "", i)) hX.calm hX.nd (PIo hX tg it) (blkOk_by (by rw [hX.N, hX.sc]; exact ok)) (fun s H D cl fp => PGo (hX.blk scope s H D cl fp) tg) (fun s H D cl fp => PTso (hX.blk scope s H D cl fp) ifs) (fun s H D cl fp => PEo (hX.blk scope s H D cl fp) ex)
    (fun x => by cases it <;> first | rfl | (cases ps))
  rw [eo] at this
  exact this
end
end G
namespace G
open PySem PySem.Spec PyProof.Rows L2
variable [Tb]
section
variable {C : Cfg} {W : WX} {M H M1 H1 : Hp} {σ σ' : L2.St} {nv nv1 : Nv} {Φ : Fn} {shs : Nat → Nat → Shape}
/-! ### calls of own defs -/
theorem slots_get : ∀ {os : List (D ⊕ Nat)} {ss : List Sl} {p : Nat} {s : Sl}, slotsOf nv os = some ss → ss[p]? = some s →
    (∃ d, os[p]? = some (.inl d) ∧ s = .val d) ∨ ∃ i, os[p]? = some (.inr i) ∧ ((nv[i]? = some (some s) ∧ ∀ f ds, s ≠ .lv f ds) ∨ ∃ f ds, nv[i]? = some (some (.lv (.l f) ds)) ∧ s = .lv (.l false) ds)
  | [], ss, p, s, h, hs => by
    simp only [slotsOf, Option.some.injEq] at h
    subst h
    simp at hs
  | .inl d :: os, ss, p, s, h, hs => by
    simp only [slotsOf] at h
    cases q : slotsOf nv os with
    | none => rw [q] at h; cases h
    | some ss' =>
      rw [q] at h
      cases h
      cases p with
      | zero => cases hs; exact .inl ⟨d, rfl, rfl⟩
      | succ p =>
        have hs : ss'[p]? = some s := by simpa using hs
        simpa using slots_get q hs
  | .inr i :: os, ss, p, s, h, hs => by
    simp only [slotsOf] at h
    split at h
    · rename_i d e
      cases q : slotsOf nv os with
      | none => rw [q] at h; cases h
      | some ss' =>
        rw [q] at h
        cases h
        cases p with
        | zero => cases hs; exact .inr ⟨i, rfl, .inl ⟨e, fun _ _ z => nomatch z⟩⟩
        | succ p =>
        have hs : ss'[p]? = some s := by simpa using hs
        simpa using slots_get q hs
    · rename_i f ds e
      cases q : slotsOf nv os with
      | none => rw [q] at h; cases h
      | some ss' =>
        rw [q] at h
        cases h
        cases p with
        | zero => cases hs; exact .inr ⟨i, rfl, .inr ⟨f, ds, e, rfl⟩⟩
        | succ p =>
        have hs : ss'[p]? = some s := by simpa using hs
        simpa using slots_get q hs
    · rename_i m ds e
      cases q : slotsOf nv os with
      | none => rw [q] at h; cases h
      | some ss' =>
        rw [q] at h
        cases h
        cases p with
        | zero => cases hs; exact .inr ⟨i, rfl, .inl ⟨e, fun _ _ z => nomatch z⟩⟩
        | succ p =>
        have hs : ss'[p]? = some s := by simpa using hs
        simpa using slots_get q hs
    · cases h
theorem slots_len : ∀ {os : List (D ⊕ Nat)} {ss : List Sl}, slotsOf nv os = some ss → ss.length = os.length
  | [], ss, h => by
    simp only [slotsOf, Option.some.injEq] at h
    subst h
    rfl
  | .inl d :: os, ss, h => by
    simp only [slotsOf] at h
    cases q : slotsOf nv os with
    | none => rw [q] at h; cases h
    | some ss' => rw [q] at h; cases h; simp [slots_len q]
  | .inr i :: os, ss, h => by
    simp only [slotsOf] at h
    split at h
    · cases q : slotsOf nv os with
      | none => rw [q] at h; cases h
      | some ss' => rw [q] at h; cases h; simp [slots_len q]
    · cases q : slotsOf nv os with
      | none => rw [q] at h; cases h
      | some ss' => rw [q] at h; cases h; simp [slots_len q]
    · cases q : slotsOf nv os with
      | none => rw [q] at h; cases h
      | some ss' => rw [q] at h; cases h; simp [slots_len q]
    · cases h
theorem brws_mem {i : Nat} : ∀ {os : List (D ⊕ Nat)}, i ∈ brws os ↔ ∃ p : Nat, os[p]? = some (Sum.inr i : D ⊕ Nat)
  | [] => by simp [brws]
  | .inl d :: os => by
    simp only [brws]
    rw [brws_mem]
    constructor
    · rintro ⟨p, h⟩; exact ⟨p + 1, by simpa using h⟩
    · rintro ⟨p, h⟩
      cases p with
      | zero => cases h
      | succ p => exact ⟨p, by simpa using h⟩
  | .inr j :: os => by
    simp only [brws, List.mem_cons]
    rw [brws_mem]
    constructor
    · rintro (rfl | ⟨p, h⟩)
      · exact ⟨0, rfl⟩
      · exact ⟨p + 1, by simpa using h⟩
    · rintro ⟨p, h⟩
      cases p with
      | zero => cases h; exact .inl rfl
      | succ p => exact .inr ⟨p, by simpa using h⟩
theorem brws_inj {i : Nat} : ∀ {os : List (D ⊕ Nat)} {p q : Nat}, (brws os).Nodup → os[p]? = some (.inr i) → os[q]? = some (.inr i) → p = q
  | [], _, _, _, h, _ => by simp at h
  | .inl d :: os, p, q, nd, h1, h2 => by
    cases p with
    | zero => cases h1
    | succ p =>
      cases q with
      | zero => cases h2
      | succ q => exact congrArg Nat.succ (brws_inj (os := os) nd (by simpa using h1) (by simpa using h2))
  | .inr j :: os, p, q, nd, h1, h2 => by
    simp only [brws, List.nodup_cons] at nd
    cases p with
    | zero =>
      cases h1
      cases q with
      | zero => rfl
      | succ q => exact absurd (brws_mem.mpr ⟨q, by simpa using h2⟩) nd.1
    | succ p =>
      cases q with
      | zero => cases h2; exact absurd (brws_mem.mpr ⟨p, by simpa using h1⟩) nd.1
      | succ q => exact congrArg Nat.succ (brws_inj (os := os) nd.2 (by simpa using h1) (by simpa using h2))
theorem OpdsR.get {K : PySem.W.Frag} : ∀ {os : List (D ⊕ Nat)} {vs : List V} {p : Nat} {o : D ⊕ Nat}, OpdsR K M σ os vs → os[p]? = some o → ∃ v, vs[p]? = some v ∧ OpdR K M σ o v
  | [], _, _, _, _, h => by simp at h
  | o :: os, vs, p, o', hv, h => by
    obtain ⟨v, vs', rfl, h1, h2⟩ := hv
    cases p with
    | zero => cases h; exact ⟨v, rfl, h1⟩
    | succ p => simpa using OpdsR.get h2 (by simpa using h)
theorem map_some_get {α : Type} {l : List α} {i : Nat} {a : α} : (l.map some)[i]? = some (some a) ↔ l[i]? = some a := by
  rw [List.getElem?_map]
  cases l[i]? <;> simp
theorem StR.args {K : PySem.W.Frag} {os : List (D ⊕ Nat)} {vs : List V} {ss : List Sl} (st : StR K M H σ nv) (h : OpdsR K M σ os vs) (e : slotsOf nv os = some ss) (nd : (brws os).Nodup) :
    StR K M H (vs.map some) (ss.map some) ∧ (∀ a, Own (vs.map some) (ss.map some) a → (∃ i ∈ brws os, ∃ f ds, nv[i]? = some (some (.lv f ds)) ∧ σ[i]? = some (some (.ref a))) ∨ TbA a) := by
  have lv : ∀ {p : Nat} {f : Kd} {ds : List D}, ss[p]? = some (.lv f ds) → ∃ i g, os[p]? = some (.inr i) ∧ nv[i]? = some (some (.lv (.l g) ds)) ∧ ∃ v, vs[p]? = some v ∧ σ[i]? = some (some v) := fun {p f ds} hs => by
    rcases slots_get e hs with ⟨d, h1, h2⟩ | ⟨i, h1, ⟨h2, h3⟩ | ⟨g, ds', h2, h3⟩⟩
    · cases h2
    · exact absurd rfl (h3 _ _)
    · cases h3
      obtain ⟨v, h4, h5⟩ := h.get h1
      exact ⟨i, g, h1, h2, v, h4, h5⟩
  refine ⟨⟨st.ext, by rw [List.length_map, List.length_map, slots_len e, h.length], fun p s hs => ?_, fun p q f g xs ys v h1 h2 h3 h4 => ?_, st.tb⟩, fun a ha => ?_⟩
  · rw [map_some_get] at hs
    rcases slots_get e hs with ⟨d, h1, rfl⟩ | ⟨i, h1, ⟨h2, _⟩ | ⟨f, ds, h2, rfl⟩⟩
    · obtain ⟨v, h4, h5⟩ := h.get h1
      exact ⟨v, map_some_get.mpr h4, h5⟩
    · obtain ⟨v, h4, h5⟩ := h.get h1
      obtain ⟨v', e1, e2⟩ := st.get i _ h2
      have h5 : σ[i]? = some (some v) := h5
      rw [h5] at e1
      cases e1
      exact ⟨v, map_some_get.mpr h4, e2⟩
    · obtain ⟨v, h4, h5⟩ := h.get h1
      obtain ⟨v', e1, e2⟩ := st.get i _ h2
      have h5 : σ[i]? = some (some v) := h5
      rw [h5] at e1
      cases e1
      exact ⟨v, map_some_get.mpr h4, e2⟩
  · rw [map_some_get] at h1 h2 h3 h4
    obtain ⟨i, a1, o1, n1, v1, w1, s1⟩ := lv h1
    obtain ⟨j, a2, o2, n2, v2, w2, s2⟩ := lv h2
    rw [h3] at w1
    rw [h4] at w2
    cases w1
    cases w2
    have : i = j := st.apart i j (.l a1) (.l a2) xs ys v n1 n2 s1 s2
    subst this
    exact brws_inj nd o1 o2
  · rcases ha with ⟨p, f, ds, h1, h2⟩ | ha
    case inr => exact .inr ha
    rw [map_some_get] at h1 h2
    obtain ⟨i, g, o1, n1, v1, w1, s1⟩ := lv h1
    rw [h2] at w1
    cases w1
    exact .inl ⟨i, brws_mem.mpr ⟨p, o1⟩, .l g, ds, n1, s1⟩
theorem put_get : ∀ {os : List (D ⊕ Nat)} {outs : List Sl} {nv2 : Nv}, putBack nv os outs = some nv2 → nv2.length = nv.length ∧ ∀ i s, nv2[i]? = some (some s) →
    (i ∉ brws os ∧ nv[i]? = some (some s)) ∨ (∃ (p : Nat) (f g : Bool) (ds ds0 : List D), os[p]? = some (Sum.inr i : D ⊕ Nat) ∧ nv[i]? = some (some (.lv (.l f) ds0)) ∧ outs[p]? = some (.lv (.l g) ds) ∧ s = .lv (.l f) ds) ∨ (nv[i]? = some (some s) ∧ ∀ f ds, s ≠ .lv f ds)
  | [], outs, nv2, h => by
    simp only [putBack, Option.some.injEq] at h
    subst h
    exact ⟨rfl, fun i s hs => .inl ⟨by simp [brws], hs⟩⟩
  | .inl d :: os, [], nv2, h => by cases h
  | .inr d :: os, [], nv2, h => by cases h
  | .inl d :: os, o :: outs, nv2, h => by
    simp only [putBack] at h
    obtain ⟨l, k⟩ := put_get h
    refine ⟨l, fun i s hs => ?_⟩
    rcases k i s hs with h1 | ⟨p, f, g, ds, ds0, h1, h2, h3, h4⟩ | h1
    · exact .inl h1
    · exact .inr (.inl ⟨p + 1, f, g, ds, ds0, by simpa using h1, h2, by simpa using h3, h4⟩)
    · exact .inr (.inr h1)
  | .inr j :: os, o :: outs, nv2, h => by
    simp only [putBack] at h
    split at h
    · rename_i nv1 f ds0 g ds e1 e2
      cases h
      obtain ⟨l, k⟩ := put_get e1
      refine ⟨by rw [List.length_set]; exact l, fun i s hs => ?_⟩
      by_cases e : j = i
      · subst e
        rw [List.getElem?_set] at hs
        split at hs
        · split at hs
          · cases hs
            exact .inr (.inl ⟨0, f, g, ds, ds0, rfl, e2, rfl, rfl⟩)
          · cases hs
        · contradiction
      · rw [List.getElem?_set_ne e] at hs
        rcases k i s hs with ⟨h1, h2⟩ | ⟨p, f, g, ds, ds0, h1, h2, h3, h4⟩ | h1
        · exact .inl ⟨by simp only [brws, List.mem_cons, not_or]; exact ⟨fun z => e z.symm, h1⟩, h2⟩
        · exact .inr (.inl ⟨p + 1, f, g, ds, ds0, by simpa using h1, h2, by simpa using h3, h4⟩)
        · exact .inr (.inr h1)
    · rename_i nv1 d e1 e2
      cases h
      obtain ⟨l, k⟩ := put_get e1
      refine ⟨l, fun i s hs => ?_⟩
      rcases k i s hs with ⟨h1, h2⟩ | ⟨p, f, g, ds, ds0, h1, h2, h3, h4⟩ | h1
      · by_cases e : j = i
        · subst e
          rw [e2] at h2
          cases h2
          exact .inr (.inr ⟨e2, fun _ _ z => nomatch z⟩)
        · exact .inl ⟨by simp only [brws, List.mem_cons, not_or]; exact ⟨fun z => e z.symm, h1⟩, h2⟩
      · exact .inr (.inl ⟨p + 1, f, g, ds, ds0, by simpa using h1, h2, by simpa using h3, h4⟩)
      · exact .inr (.inr h1)
    · rename_i nv1 m ds1 e1 e2
      cases h
      obtain ⟨l, k⟩ := put_get e1
      refine ⟨l, fun i s hs => ?_⟩
      rcases k i s hs with ⟨h1, h2⟩ | ⟨p, f, g, ds, ds0, h1, h2, h3, h4⟩ | h1
      · by_cases e : j = i
        · subst e
          rw [e2] at h2
          cases h2
          exact .inr (.inr ⟨e2, fun _ _ z => nomatch z⟩)
        · exact .inl ⟨by simp only [brws, List.mem_cons, not_or]; exact ⟨fun z => e z.symm, h1⟩, h2⟩
      · exact .inr (.inl ⟨p + 1, f, g, ds, ds0, by simpa using h1, h2, by simpa using h3, h4⟩)
      · exact .inr (.inr h1)
    · cases h
end
end G
namespace G
open PySem PySem.Spec PyProof.Rows L2
variable [Tb]
section
variable {C : Cfg} {W : WX} {M H M1 H1 : Hp} {σ σ' : L2.St} {nv nv1 : Nv} {Φ : Fn} {shs : Nat → Nat → Shape}
theorem StR.called {K : PySem.W.Frag} {os : List (D ⊕ Nat)} {vs : List V} {ss outs : List Sl} {nv2 : Nv} {M' H' : Hp} {Z : Addr → Prop} (st : StR K M H σ nv) (h : OpdsR K M σ os vs) (e : slotsOf nv os = some ss) (nd : (brws os).Nodup)
    (stc : StR K M' H' (vs.map some) (outs.map some)) (sc : Step M H (Own (vs.map some) (ss.map some)) M' H' (fun a => Own (vs.map some) (outs.map some) a ∨ Z a)) (pb : putBack nv os outs = some nv2) :
    StR K M' H' σ nv2 ∧ Step M H (Own σ nv) M' H' (fun a => Own σ nv2 a ∨ Z a) ∧ (∀ a, Z a → ¬ Own (vs.map some) (outs.map some) a → ¬ Own σ nv2 a) := by
  obtain ⟨_, oa⟩ := st.args h e nd
  obtain ⟨pl, pg⟩ := put_get pb
  have oa' : ∀ a, Own (vs.map some) (ss.map some) a → Own σ nv a := fun a ha => by
    rcases oa a ha with ⟨i, _, f, ds, h1, h2⟩ | h
    · exact .inl ⟨i, f, ds, h1, h2⟩
    · exact .inr h
  -- what is not lent stays
  have far : ∀ i f ds a, i ∉ brws os → nv[i]? = some (some (.lv f ds)) → σ[i]? = some (some (.ref a)) → ¬ Own (vs.map some) (ss.map some) a := fun i f ds a hi h1 h2 z => by
    obtain ⟨v, e1, a', o, rfl, _, e3, e4⟩ := st.get i _ h1
    rw [h2] at e1
    cases e1
    rcases oa a z with ⟨j, hj, g, ys, h3, h4⟩ | z
    case inr => exact st.notTab e3 (fun _ => e4.ntbl) z
    have := st.apart i j f g ds ys _ h1 h3 h2 h4
    exact hi (this ▸ hj)
  have lent : ∀ {p i : Nat} {g : Bool} {ds : List D}, os[p]? = some (.inr i) → outs[p]? = some (.lv (.l g) ds) → ∃ a xs, σ[i]? = some (some (.ref a)) ∧ vs[p]? = some (.ref a) ∧ M' a = none ∧ H' a = some (.lst xs) ∧ Reps K M' ds xs := fun {p i g ds} h1 h2 => by
    obtain ⟨v, h3, h4⟩ := h.get h1
    obtain ⟨w, e1, a, o, rfl, e3, e4, xs, rfl, e5⟩ := stc.get p _ (map_some_get.mpr h2)
    rw [map_some_get, h3] at e1
    cases e1
    exact ⟨a, xs, h4, h3, e3, e4, e5⟩
  have sub : ∀ a, Own σ nv2 a → Own σ nv a := fun a ha => by
    rcases ha with ⟨i, f, ds, h1, h2⟩ | ha
    case inr => exact .inr ha
    rcases pg i _ h1 with ⟨_, h3⟩ | ⟨p, f', g, ds', ds0, h3, h4, h5, h6⟩ | ⟨_, h3⟩
    · exact .inl ⟨i, f, ds, h3, h2⟩
    · exact .inl ⟨i, .l f', ds0, h4, h2⟩
    · exact absurd rfl (h3 _ _)
  refine ⟨⟨stc.ext, pl.trans st.len, fun i s hs => ?_, fun i j f g xs ys v h1 h2 h3 h4 => ?_, stc.tb⟩, ⟨sc.mm, fun a o h1 h2 => sc.keep a o h1 fun z => h2 (oa' a z), fun a ha => ?_, sc.dom, fun a o h1 => (sc.mnew a o h1).imp id (Or.imp (oa' a) id)⟩, fun a hz hn ho => ?_⟩
  · rcases pg i s hs with ⟨hi, h1⟩ | ⟨p, f, g, ds, ds0, h1, h2, h3, rfl⟩ | ⟨h1, h2⟩
    · obtain ⟨v, e1, e2⟩ := st.get i s h1
      refine ⟨v, e1, ?_⟩
      cases s with
      | val d => exact Rep.mono sc.mm e2
      | fn m ds => exact FnR.mono sc.mm e2
      | lv f ds =>
        obtain ⟨a, xs, rfl, e3, e4, e5⟩ := e2
        have no := far i f ds a hi h1 e1
        obtain ⟨k1, k2, _⟩ := kept_at (s := sc) e4 e3 no
        exact ⟨a, xs, rfl, k2, k1, LoR.mono sc.mm e5⟩
    · obtain ⟨a, xs, e1, _, e3, e4, e5⟩ := lent h1 h3
      exact ⟨_, e1, a, _, rfl, e3, e4, xs, rfl, e5⟩
    · obtain ⟨v, e1, e2⟩ := st.get i _ h1
      refine ⟨v, e1, ?_⟩
      cases s with
      | val d => exact Rep.mono sc.mm e2
      | fn m ds => exact FnR.mono sc.mm e2
      | lv f ds => exact absurd rfl (h2 _ _)
  · rcases pg i _ h1 with ⟨hi, h1⟩ | ⟨p, f', g', ds, ds0, h1, h1', h1'', h5⟩ | ⟨_, h1⟩
    · rcases pg j _ h2 with ⟨hj, h2⟩ | ⟨q, f2, g2, es, es0, h2, h2', h2'', h6⟩ | ⟨_, h2⟩
      · exact st.apart i j f g xs ys v h1 h2 h3 h4
      · exact st.apart i j f (.l f2) xs es0 v h1 h2' h3 h4
      · exact absurd rfl (h2 _ _)
    · rcases pg j _ h2 with ⟨hj, h2⟩ | ⟨q, f2, g2, es, es0, h2, h2', h2'', h6⟩ | ⟨_, h2⟩
      · exact st.apart i j (.l f') g ds0 ys v h1' h2 h3 h4
      · exact st.apart i j (.l f') (.l f2) ds0 es0 v h1' h2' h3 h4
      · exact absurd rfl (h2 _ _)
    · exact absurd rfl (h1 _ _)
  · rcases ha with ha | ha
    · exact .inl (sub a ha)
    · exact (sc.own a (.inr ha)).imp (oa' a) id
  · rcases ho with ⟨i, f, ds, h1, h2⟩ | ho
    case inr => exact hn (.inr ho)
    rcases pg i _ h1 with ⟨hi, h3⟩ | ⟨p, f', g, ds', ds0, h3, h4, h5, h6⟩ | ⟨_, h3⟩
    · rcases sc.own a (.inr hz) with z | z
      · exact far i f ds a hi h3 h2 z
      · obtain ⟨_, xs, h7⟩ := st.own_at (.inl ⟨i, f, ds, h3, h2⟩)
        rw [z] at h7; cases h7
    · obtain ⟨b, xs, e1, e2, _⟩ := lent h3 h5
      rw [h2] at e1
      cases e1
      exact hn (.inl ⟨p, .l g, ds', map_some_get.mpr h5, map_some_get.mpr e2⟩)
    · exact absurd rfl (h3 _ _)
def crRs : Cr → Rs R
  | .ok r outs => .ok r (outs.map some)
  | .exc c as outs => .exc c as (outs.map some)
  | .stuck => .stuck
/-- what the i-th def promises: what the reckoning of it says -/
def spOf (C : Cfg) (Φ : Fn) (i n : Nat) : Sp := fun vs H Q E => vs.length = n ∧ ∃ M ss, StR C.K M H (vs.map some) (ss.map some) ∧ DoneE C (fun cls d _ H => E cls d H) M H (vs.map some) (ss.map some) (crRs (Φ i ss)) Q
structure FnI where
  name : Str
  f : Addr
  fd : FuncData
  ps : List Str
def ShOk (K : PySem.W.Frag) (fd : FuncData) (ps ks : List Str) (np : Nat) (sh : Shape) : Prop := ∃ arrU : List Value → List Value → List Value,
  (∀ (s : Shared) (us ws : List Value), K.In s.heap → us.length = np → ws.length = ks.length → BindsTo s fd ⟨us, ks.zip ws⟩ (ps.zip (arrU us ws))) ∧
  (∀ (M : Hp) (σ : L2.St) (os os' : List (D ⊕ Nat)) (vs zs : List V) (us ws : List Value), us.length = np → ws.length = ks.length → Vals vs us → Vals zs ws → OpdsR K M σ os (vs ++ zs) → arrO sh os = some os' →
    ∃ vs', Vals vs' (arrU us ws) ∧ OpdsR K M σ os' vs' ∧ vs'.length = ps.length)
/-- how a written call comes to its parameters: how many are written by place, the keywords, the places -/
abbrev ShT := Nat → Nat → Option (Nat × List Str × Shape)
def shsOf (T : ShT) : Nat → Nat → Shape := fun i j => match T i j with
  | some (_, _, sh) => sh
  | none => [.inl 1000000]
structure FtOk (C : Cfg) (Φ : Fn) (ft : Nat → Option FnI) (T : ShT) : Prop where
  at_ : ∀ i fi, ft i = some fi → C.mg fi.name = some (.ref fi.f) ∧ PySem.W.keepIn C.K (.ref fi.f) = true ∧ FnOk C.P C.w C.K C.mg C.base (L2.CX C.P C.w) C.k fi.f fi.fd fi.ps (spOf C Φ i fi.ps.length)
  sh : ∀ i fi j np ks sh, ft i = some fi → T i j = some (np, ks, sh) → ShOk C.K fi.fd fi.ps ks np sh
theorem run_call {X : Cx} {f : Addr} {fd : FuncData} {ps : List Str} {sp : Sp} (hX : AtE C W X) (F : FnOk C.P C.w C.K C.mg C.base (L2.CX C.P C.w) C.k f fd ps sp) {pins : List (Addr × Obj)} {s : Shared} {Q : VK} {us : List Value} {kw : List (Str × Value)} {bu : List Value} {vs : List V}
    (I : Inv X pins σ H s) (b : BindsTo s fd ⟨us, kw⟩ (ps.zip bu)) (r : Vals vs bu) (h : sp vs H Q fun cls d H' => W cls d σ H') : wpAny (model X.prog X.w) X.A (call (.ref f) us kw) (EP X pins σ Q) X.xe s := by
  have F' : FnOk X.prog X.w X.K X.mg X.base (L2.CX X.prog X.w) C.k f fd ps sp := by
    rw [hX.prog, hX.w, hX.K, hX.mg, hX.base]; exact F
  refine wpAny_call (codeAny_mono (F'.run X.A X.stack s H ⟨us, kw⟩ bu vs Q _ (hX.room.mono (Nat.le_succ _)) I.env0 b r h) fun r s' hq => ?_)
  cases r with
  | error e => exact hX.tk _ _ (XE.of_call I (fun cls d H' w => w) hq)
  | ok fl =>
    cases fl with
    | ret u => exact I.after hq
    | next => exact False.elim hq
    | brk => exact False.elim hq
    | cont => exact False.elim hq
/-- what a call asks -/
theorem callOn_sp {Q : VK} {sh : Shape} {os : List (D ⊕ Nat)} {vs : List V} {i n : Nat} (st : StR C.K M H σ nv) (hd : DoneE C W M H σ nv (callOn Φ i sh os nv) Q) :
    ∃ os', arrO sh os = some os' ∧ ∀ vs', OpdsR C.K M σ os' vs' → vs'.length = n → spOf C Φ i n vs' H Q fun cls d H' => W cls d σ H' := by
  unfold callOn at hd
  cases e1 : arrO sh os with
  | none => rw [e1] at hd; exact hd.elim
  | some os' =>
    rw [e1] at hd
    simp only at hd
    refine ⟨os', rfl, fun vs' hv hl => ⟨hl, ?_⟩⟩
    cases e2 : slotsOf nv os' with
    | none => rw [e2] at hd; exact hd.elim
    | some ss =>
      rw [e2] at hd
      simp only at hd
      by_cases nd : (brws os').Nodup
      · rw [if_pos nd] at hd
        obtain ⟨sta, _⟩ := st.args hv e2 nd
        refine ⟨M, ss, sta, ?_⟩
        cases e3 : Φ i ss with
        | stuck => rw [e3] at hd; exact hd.elim
        | ok r outs =>
          rw [e3] at hd
          simp only at hd
          cases e4 : putBack nv os' outs with
          | none => rw [e4] at hd; exact hd.elim
          | some nv2 =>
            rw [e4] at hd
            intro v M' H' s' st' rr
            obtain ⟨w1, w2, w3⟩ := st.called hv e2 nd st' s' e4
            refine hd v M' H' w2 w1 ?_
            cases r with
            | val d => exact rr
            | own ds =>
              obtain ⟨a, xs, rfl, h1, h2, h3, h4⟩ := rr
              exact ⟨a, xs, rfl, h1, h2, w3 a rfl h3, h4⟩
        | exc c as outs =>
          rw [e3] at hd
          simp only at hd
          cases e4 : putBack nv os' outs with
          | none => rw [e4] at hd; exact hd.elim
          | some nv2 =>
            rw [e4] at hd
            intro cls d M' H' s' st' ex
            obtain ⟨w1, w2, _⟩ := st.called (Z := fun _ => False) hv e2 nd st' (s'.less fun a h => h.elim id False.elim) e4
            exact hd cls d M' H' (w2.less fun a h => .inl h) w1 ex
      · rw [if_neg nd] at hd; exact hd.elim
theorem evOs_append : ∀ (es fs : List E) (nv : Nv), evOs Φ shs (es ++ fs) nv = (evOs Φ shs es nv).bind fun os nv1 => (evOs Φ shs fs nv1).bind fun os2 nv2 => .ok (os ++ os2) nv2
  | [], fs, nv => by
    rw [evOs]
    simp only [List.nil_append, Rs.bind]
    cases evOs Φ shs fs nv <;> rfl
  | e :: es, fs, nv => by
    rw [List.cons_append, evOs, evOs]
    by_cases hb : isBrw e = true
    · cases e <;> first | (cases hb; done) | skip
      simp only [argStep]
      split
      · rw [evOs_append es fs nv]
        cases evOs Φ shs es nv with
        | ok os nv1 =>
          simp only [Rs.bind]
          cases evOs Φ shs fs nv1 <;> rfl
        | exc c as nv1 => rfl
        | stuck => rfl
      · rfl
    · have hb : isBrw e = false := by simpa using hb
      have st : ∀ rest, argStep e nv (evE Φ shs e nv) rest = (evE Φ shs e nv).bind fun r nv1 => (rest nv1).bind fun os nv2 => .ok (.inl r.frz :: os) nv2 := fun rest => by
        cases e <;> first | rfl | (cases hb)
      rw [st, st]
      cases evE Φ shs e nv with
      | ok r nv0 =>
        simp only [Rs.bind]
        rw [evOs_append es fs nv0]
        cases evOs Φ shs es nv0 with
        | ok os nv1 =>
          simp only [Rs.bind]
          cases evOs Φ shs fs nv1 <;> rfl
        | exc c as nv1 => rfl
        | stuck => rfl
      | exc c as nv1 => rfl
      | stuck => rfl
theorem OpdsR.append {K : PySem.W.Frag} : ∀ {os os2 : List (D ⊕ Nat)} {vs vs2 : List V}, OpdsR K M σ os vs → OpdsR K M σ os2 vs2 → OpdsR K M σ (os ++ os2) (vs ++ vs2)
  | [], _, _, _, h, h2 => by
    have h : _ = [] := h
    subst h
    exact h2
  | o :: os, os2, vs, vs2, h, h2 => by
    obtain ⟨v, vs', rfl, e2, e3⟩ := h
    exact ⟨v, vs' ++ vs2, rfl, e2, OpdsR.append e3 h2⟩
/-- f(e, ..) -/
theorem snd_call {ft : Nat → Option FnI} {T : ShT} (F : FtOk C Φ ft T) {i j : Nat} {fi : FnI} {sh : Shape} {x : Expr} {xs : List Expr} {es : List E} {p pos : Pos} (hf : ft i = some fi) (hT : T i j = some ((x :: xs).length, [], sh)) (hg : isGl C.sc fi.name = true)
    (hdb : (fi.name == ("__debug__" : Str)) = false) (ns : noStars (x :: xs) = true) (hel : es.length = (x :: xs).length) (h : SndA C W (x :: xs) (evOs Φ (shsOf T) es)) : SndE C W (.Call (.Name fi.name p) (x :: xs) [] pos) (evE Φ (shsOf T) (.call i j es)) := by
  intro M H σ nv Q st hd
  refine ⟨fun X hX pins s I => ?_⟩
  obtain ⟨hm, hk, FO⟩ := F.at_ i fi hf
  obtain ⟨arrU, hB, hR⟩ := F.sh i fi j _ _ _ hf hT
  obtain ⟨n1, n2⟩ := noStars_cons ns
  refine wpAny_Call_Name_kw (ld_glob I (gl_of hX hg) (by rw [hX.mg]; exact hm) ?_ hdb)
  refine PySem.W.callWith_K (h₀ := X.base) I.ok.mod.kin (by rw [hX.K]; exact hk) ?_ (star_cons n1 _ _) (plain_back n2)
  have hs : shsOf T i j = sh := by unfold shsOf; rw [hT]
  rw [evE, hs] at hd
  have go : tA C W (x :: xs) σ H fun vs H1 => vs.length = (x :: xs).length ∧ ∃ M1 nv1 os, StR C.K M1 H1 σ nv1 ∧ OpdsR C.K M1 σ os vs ∧ DoneE C W M1 H1 σ nv1 (callOn Φ i sh os nv1) Q := by
    refine h M H σ nv _ st ?_
    cases e1 : evOs Φ (shsOf T) es nv with
    | ok os nv1 =>
      rw [e1] at hd
      intro M1 H1 s1 st1 vs hv
      refine ⟨?_, M1, nv1, os, st1, hv, DoneE.later hd s1⟩
      rw [← hv.length, evOs_len e1, hel]
    | exc c as nv1 => rw [e1] at hd; exact hd
    | stuck => rw [e1] at hd; exact hd.elim
  refine thn (go.un X hX pos pins s I) fun us s1 ⟨vs, H1, I1, r, hl, M1, nv1, os, st1, hv, hd1⟩ => ⟨I1.kIn, ?_⟩
  obtain ⟨os', ea, hsp⟩ := callOn_sp (vs := vs) (n := fi.ps.length) st1 hd1
  have hul : us.length = (x :: xs).length := by rw [← r.length]; exact hl
  have r0 : Vals ([] : List V) ([] : List Value) := .nil
  obtain ⟨vs', r1, r2, r3⟩ := hR M1 σ os os' vs [] us [] hul rfl r r0 (by rw [List.append_nil]; exact hv) ea
  exact run_call hX FO I1 (hB s1 us [] (by rw [← hX.K]; exact I1.kIn) hul rfl) r1 (hsp vs' r2 r3)
/-- f(e, .., k = e, ..) -/
def kwE (kws : List Keyword) : List Expr := kws.map fun | ⟨_, e, _⟩ => e
def kwN (kws : List Keyword) : List (Option Str) := kws.map fun | ⟨n, _, _⟩ => n
structure tKw (C : Cfg) (W : WX) (kws : List Keyword)  (σ : L2.St) (H : Hp) (Q : List V → Hp → Prop) : Prop where
  un : ∀ X, AtE C W X → ∀ (pos : Pos) pins s, Inv X pins σ H s → wpAny (model X.prog X.w) X.A (evalAll ((backToKw pos (keywordEach kws X.env)).map (·.2))) (AP X pins σ Q) X.xe s
theorem PKo {X : Cx} (h : AtE C W X) (kws : List Keyword) : PK X kws (tKw C W kws) := ⟨fun pos pins s σ H Q I t => t.un X h pos pins s I⟩
theorem tKw_cons {kw : Keyword} {kws : List Keyword} {Q : List V → Hp → Prop} {σ : L2.St} {H : Hp} {n : Option Str} {e : Expr} {p : Pos} (hk : kw = ⟨n, e, p⟩) (h : tE C W e σ H fun v H1 => tKw C W kws σ H1 fun vs H2 => Q (v :: vs) H2) : tKw C W (kw :: kws) σ H Q := by
  subst hk
  exact ⟨fun X hX pos pins s I => (pk_cons (PEo hX e) (PKo hX kws)).run pos pins s σ H Q I h⟩
theorem tKw_nil {Q : List V → Hp → Prop} {σ : L2.St} {H : Hp} (h : Q [] H) : tKw C W [] σ H Q := ⟨fun X hX pos pins s I => pk_nil.run pos pins s σ H Q I h⟩
theorem kw_some : ∀ {kws : List Keyword} {ks : List Str} {env : PySem.Env} {pos : Pos}, kwN kws = ks.map some → (backToKw pos (keywordEach kws env)).all (·.1.isSome) = true ∧ (backToKw pos (keywordEach kws env)).filterMap (·.1) = ks ∧ (backToKw pos (keywordEach kws env)).any (·.1.isNone) = false
  | [], [], _, _, _ => ⟨rfl, rfl, rfl⟩
  | [], k :: ks, _, _, h => by cases h
  | ⟨n, e, p⟩ :: kws, [], _, _, h => by cases h
  | ⟨n, e, p⟩ :: kws, k :: ks, env, pos, h => by
    have h1 : n = some k ∧ kwN kws = ks.map some := by simpa [kwN] using h
    obtain ⟨rfl, h2⟩ := h1
    obtain ⟨a, b, c⟩ := kw_some (env := env) (pos := pos) h2
    refine ⟨?_, ?_, ?_⟩
    · show (_ && (backToKw pos (keywordEach kws env)).all (·.1.isSome)) = true
      rw [a]; rfl
    · show k :: (backToKw pos (keywordEach kws env)).filterMap (·.1) = _
      rw [b]
    · show (_ || (backToKw pos (keywordEach kws env)).any (·.1.isNone)) = false
      rw [c]; rfl
/-- an argument list as a list of keywords' values -/
theorem sndA_split : ∀ (kws : List Keyword) {fs : List E} {M H : Hp} {σ : L2.St} {nv : Nv} {Q : List V → Hp → Prop}, (∀ (e : Expr) (f : E) (n : Nat), (kwE kws)[n]? = some e → fs[n]? = some f → isBrw f = false ∧ SndE C W e (evE Φ shs f)) → fs.length = kws.length → StR C.K M H σ nv →
    DoneX C W M H σ nv (evOs Φ shs fs nv) (fun os nv' M' H' => ∀ vs, OpdsR C.K M' σ os vs → Q vs H') → tKw C W kws σ H Q
  | [], [], M, H, σ, nv, Q, hs, hl, st, hd => by
    rw [evOs] at hd
    exact tKw_nil (hd M H (Step.refl _ _ _) st [] rfl)
  | [], f :: fs, _, _, _, _, _, _, hl, _, _ => by cases hl
  | kw :: kws, [], _, _, _, _, _, _, hl, _, _ => by cases hl
  | ⟨n, e, p⟩ :: kws, f :: fs, M, H, σ, nv, Q, hs, hl, st, hd => by
    refine tKw_cons rfl ?_
    obtain ⟨hb, he⟩ := hs e f 0 rfl rfl
    rw [evOs] at hd
    have e1 : argStep f nv (evE Φ shs f nv) (evOs Φ shs fs) = (evE Φ shs f nv).bind fun r nv1 => (evOs Φ shs fs nv1).bind fun os nv2 => .ok (.inl r.frz :: os) nv2 := by
      cases f <;> first | rfl | (cases hb)
    rw [e1] at hd
    refine SndE.then he st hd fun r nv1 v M1 H1 e2 st1 rp s1 hd1 => ?_
    refine sndA_split kws (fs := fs) (fun e f n h1 h2 => hs e f (n + 1) (by simpa [kwE] using h1) (by simpa using h2)) (by simpa using hl) st1 ?_
    cases e3 : evOs Φ shs fs nv1 with
    | ok os nv2 =>
      rw [e3] at hd1
      intro M2 H2 s2 st2 vs hv
      exact hd1 M2 H2 s2 st2 (v :: vs) ⟨v, vs, rfl, Rep.mono s2.mm rp, hv⟩
    | exc c as nv2 => rw [e3] at hd1; exact hd1
    | stuck => rw [e3] at hd1; exact hd1
theorem snd_callK {ft : Nat → Option FnI} {T : ShT} (F : FtOk C Φ ft T) {i j : Nat} {fi : FnI} {sh : Shape} {ks : List Str} {x : Expr} {xs : List Expr} {kws : List Keyword} {es fs : List E} {p pos : Pos} (hf : ft i = some fi) (hT : T i j = some ((x :: xs).length, ks, sh)) (hg : isGl C.sc fi.name = true)
    (hdb : (fi.name == ("__debug__" : Str)) = false) (ns : noStars (x :: xs) = true) (hel : es.length = (x :: xs).length) (hfl : fs.length = kws.length) (hkn : kwN kws = ks.map some) (h : SndA C W (x :: xs) (evOs Φ (shsOf T) es))
    (hk : ∀ (e : Expr) (f : E) (n : Nat), (kwE kws)[n]? = some e → fs[n]? = some f → isBrw f = false ∧ SndE C W e (evE Φ (shsOf T) f)) : SndE C W (.Call (.Name fi.name p) (x :: xs) kws pos) (evE Φ (shsOf T) (.call i j (es ++ fs))) := by
  intro M H σ nv Q st hd
  refine ⟨fun X hX pins s I => ?_⟩
  obtain ⟨hm, hkp, FO⟩ := F.at_ i fi hf
  obtain ⟨arrU, hB, hR⟩ := F.sh i fi j _ _ _ hf hT
  obtain ⟨n1, n2⟩ := noStars_cons ns
  obtain ⟨ka, kb, kc⟩ := kw_some (env := X.env) (pos := pos) hkn
  refine wpAny_Call_Name_kw (ld_glob I (gl_of hX hg) (by rw [hX.mg]; exact hm) ?_ hdb)
  refine PySem.W.callWith_KW (h₀ := X.base) I.ok.mod.kin (by rw [hX.K]; exact hkp) ka ?_ ?_ (star_cons n1 _ _)
  · have hs : shsOf T i j = sh := by unfold shsOf; rw [hT]
    rw [evE, hs, evOs_append] at hd
    have go : tA C W (x :: xs) σ H fun vs H1 => tKw C W kws σ H1 fun zs H2 => vs.length = (x :: xs).length ∧ zs.length = ks.length ∧ ∃ M1 nv1 os, StR C.K M1 H2 σ nv1 ∧ OpdsR C.K M1 σ os (vs ++ zs) ∧ DoneE C W M1 H2 σ nv1 (callOn Φ i sh os nv1) Q := by
      refine h M H σ nv _ st ?_
      cases e1 : evOs Φ (shsOf T) es nv with
      | ok os nv1 =>
        rw [e1] at hd
        intro M1 H1 s1 st1 vs hv
        have hd := DoneE.later hd s1
        refine sndA_split kws hk hfl st1 ?_
        simp only [Rs.bind] at hd
        cases e2 : evOs Φ (shsOf T) fs nv1 with
        | ok os2 nv2 =>
          rw [e2] at hd
          intro M2 H2 s2 st2 zs hz
          refine ⟨?_, ?_, M2, nv2, os ++ os2, st2, (hv.mono s2.mm).append hz, DoneE.later hd s2⟩
          · rw [← hv.length, evOs_len e1, hel]
          · rw [← hz.length, evOs_len e2, hfl]
            have := congrArg List.length hkn
            simpa [kwN] using this
        | exc c as nv2 => rw [e2] at hd; exact hd
        | stuck => rw [e2] at hd; exact hd.elim
      | exc c as nv1 => rw [e1] at hd; exact hd
      | stuck => rw [e1] at hd; exact hd.elim
    refine thn (go.un X hX pos pins s I) fun us s1 ⟨vs, H1, I1, r, q1⟩ => ?_
    refine thn (q1.un X hX pos pins s1 I1) fun ws s2 ⟨zs, H2, I2, rz, hl, hlz, M1, nv1, os, st1, hv, hd1⟩ => ⟨I2.kIn, ?_⟩
    rw [kb]
    obtain ⟨os', ea, hsp⟩ := callOn_sp (vs := vs ++ zs) (n := fi.ps.length) st1 hd1
    have hul : us.length = (x :: xs).length := by rw [← r.length]; exact hl
    have hwl : ws.length = ks.length := by rw [← rz.length]; exact hlz
    obtain ⟨vs', r1, r2, r3⟩ := hR M1 σ os os' vs zs us ws hul hwl r rz hv ea
    exact run_call hX FO I2 (hB s2 us ws (by rw [← hX.K]; exact I2.kIn) hul hwl) r1 (hsp vs' r2 r3)
  · have := plain_back (env := X.env) (pos := pos) ns
    rw [this, kc]
    rfl
end
end G
namespace G
open PySem PySem.Spec PyProof.Rows L2
variable [Tb]
/-- no call of super() -/
def plainBase : Expr → Bool
  | .Call _ [] [] _ => false
  | _ => true
/-- the built-in names that are used -/
def bnames : List Str := ["len", "abs", "int", "tuple", "list", "max", "min", "sum", "any", "all", "isinstance", "bool", "str", "range", "zip", "enumerate", "reversed", "sorted", "set", "dict", "divmod"]
def BltOk (C : Cfg) : Prop := ∀ x ∈ bnames, C.mg x = none
section
variable {C : Cfg} {W : WX} {M H M1 H1 : Hp} {σ σ' : L2.St} {nv nv1 : Nv} {Φ : Fn} {shs : Nat → Nat → Shape}
/-- a part that is an operand -/
abbrev SO (C : Cfg) (W : WX) (Φ : Fn) (shs : Nat → Nat → Shape) (x : Expr) (a : E) : Prop := SndO C W x (fun nv => opd a nv (evE Φ shs a nv))
/-! ### operators -/
section
variable {x y : Expr} {a b : E} {pos : Pos}
theorem s_add (ha : SO C W Φ shs x a) (hb : SO C W Φ shs y b) : SndE C W (.BinOp x .Add y pos) (evE Φ shs (.op2 .add a b)) :=
  snd_op2 (r := fun x y H Q => rI0 (fun i j => .int (i + j)) x y H Q ∨ (∃ i j, x = .str i ∧ y = .str j ∧ i.length + j.length ≤ sizeLine ∧ Q (.str (i ++ j)) H) ∨ GT.rCatN C.K x y H Q ∨ rCat x y H Q) ha hb
    (fun X hX => pe_op (by rw [← hX.K]; exact OpR.or op_add (OpR.or op_add_str (OpR.or GT.op_catN op_cat))) (PEo hX x) (PEo hX y)) ok_add
theorem s_sub (ha : SO C W Φ shs x a) (hb : SO C W Φ shs y b) : SndE C W (.BinOp x .Sub y pos) (evE Φ shs (.op2 .sub a b)) := snd_op2 ha hb (fun X hX => pe_op op_sub (PEo hX x) (PEo hX y)) ok_sub
theorem s_mul (ha : SO C W Φ shs x a) (hb : SO C W Φ shs y b) : SndE C W (.BinOp x .Mult y pos) (evE Φ shs (.op2 .mul a b)) :=
  snd_op2 (r := fun x y H Q => rI CMul (fun i j => .int (i * j)) x y H Q ∨ rRep x y H Q ∨ rMulS x y H Q) ha hb (fun X hX => pe_op (OpR.or op_mul (OpR.or op_rep op_mulS)) (PEo hX x) (PEo hX y)) ok_mul
theorem s_fdiv (ha : SO C W Φ shs x a) (hb : SO C W Φ shs y b) : SndE C W (.BinOp x .FloorDiv y pos) (evE Φ shs (.op2 .fdiv a b)) := snd_op2 ha hb (fun X hX => pe_op op_fdiv (PEo hX x) (PEo hX y)) ok_fdiv
theorem s_mod (ha : SO C W Φ shs x a) (hb : SO C W Φ shs y b) : SndE C W (.BinOp x .Mod y pos) (evE Φ shs (.op2 .mod a b)) := snd_op2 ha hb (fun X hX => pe_op op_mod (PEo hX x) (PEo hX y)) ok_mod
theorem s_pow (ha : SO C W Φ shs x a) (hb : SO C W Φ shs y b) : SndE C W (.BinOp x .Pow y pos) (evE Φ shs (.op2 .pow a b)) := snd_op2 ha hb (fun X hX => pe_op op_pow (PEo hX x) (PEo hX y)) ok_pow
theorem s_neg (ha : SO C W Φ shs x a) : SndE C W (.UnaryOp .USub x pos) (evE Φ shs (.op1 .neg a)) := snd_op1 ha (fun X hX => pe_un un_neg (PEo hX x)) ok_neg
/-! ### comparisons, as values and as tests -/
def cmpR (K : PySem.W.Frag) : P2 → V → V → Hp → VK → Prop
  | .eq => fun x y H Q => rEq x y H Q ∨ rEqP K x y H Q
  | .ne => fun x y H Q => rNe x y H Q ∨ rNeP K x y H Q
  | .lt => fun x y H Q => rI0 (fun i j => .bl (decide (i < j))) x y H Q ∨ rLexO K (fun i j => decide (i < j)) x y H Q
  | .le => fun x y H Q => rI0 (fun i j => .bl (decide (i ≤ j))) x y H Q ∨ rLexO K (fun i j => decide (i ≤ j)) x y H Q
  | .gt => fun x y H Q => rI0 (fun i j => .bl (decide (j < i))) x y H Q ∨ rLexO K (fun i j => decide (j < i)) x y H Q
  | .ge => fun x y H Q => rI0 (fun i j => .bl (decide (j ≤ i))) x y H Q ∨ rLexO K (fun i j => decide (j ≤ i)) x y H Q
  | .leL => rLexL K (fun i j => decide (i ≤ j))
  | _ => fun _ _ _ _ => False
def cmpO : P2 → Option CmpOp
  | .eq => some .Eq | .ne => some .NotEq | .lt => some .Lt | .le => some .LtE | .gt => some .Gt | .ge => some .GtE | .leL => some .LtE | _ => none
theorem cmp_ok {p : P2} {o : CmpOp} (h : cmpO p = some o) {X : Cx} (hX : AtE C W X) : OpR X (compareOp o) (cmpR C.K p) ∧ Ok2 C.K (cmpR C.K p) (p2 p) ∧ o ≠ .In ∧ o ≠ .NotIn := by
  cases p <;> first | (cases h; done) | (cases h)
  · exact ⟨OpR.or op_eq (by rw [← hX.K]; exact op_eqP hX.room.units), ok_eq, by decide, by decide⟩
  · exact ⟨OpR.or op_ne (by rw [← hX.K]; exact op_neP hX.room.units), ok_ne, by decide, by decide⟩
  · exact ⟨OpR.or op_lt (by rw [← hX.K]; exact op_ltO hX.room.units0), ok_cmp _, by decide, by decide⟩
  · exact ⟨OpR.or op_le (by rw [← hX.K]; exact op_leO hX.room.units0), ok_cmp _, by decide, by decide⟩
  · exact ⟨OpR.or op_gt (by rw [← hX.K]; exact op_gtO hX.room.units0), ok_cmp _, by decide, by decide⟩
  · exact ⟨OpR.or op_ge (by rw [← hX.K]; exact op_geO hX.room.units0), ok_cmp _, by decide, by decide⟩
  · exact ⟨by rw [← hX.K]; exact op_leL hX.room.units0, ok_leL, by decide, by decide⟩
theorem s_cmp {p : P2} {o : CmpOp} (h : cmpO p = some o) (ha : SO C W Φ shs x a) (hb : SO C W Φ shs y b) : SndE C W (.Compare x [o] [y] pos) (evE Φ shs (.op2 p a b)) :=
  snd_op2 ha hb (fun X hX => pe_cmpR (cmp_ok h hX).1 (PEo hX x) (PEo hX y) (nomark y (cmp_ok h hX).2.2.1 (cmp_ok h hX).2.2.2)) (by
    have : Nonempty Cx ∨ True := .inr trivial
    cases p <;> first | (cases h; done) | (cases h)
    · exact ok_eq
    · exact ok_ne
    · exact ok_cmp _
    · exact ok_cmp _
    · exact ok_cmp _
    · exact ok_cmp _
    · exact ok_leL)
theorem t_cmp {p : P2} {o : CmpOp} (h : cmpO p = some o) (ha : SO C W Φ shs x a) (hb : SO C W Φ shs y b) : SndT C W (.Compare x [o] [y] pos) (evE Φ shs (.op2 p a b)) :=
  sndT_cmp ha hb (fun X hX => pt_cmpR (cmp_ok h hX).1 (PEo hX x) (PEo hX y) (nomark y (cmp_ok h hX).2.2.1 (cmp_ok h hX).2.2.2)) (by
    cases p <;> first | (cases h; done) | (cases h)
    · exact ok_eq
    · exact ok_ne
    · exact ok_cmp _
    · exact ok_cmp _
    · exact ok_cmp _
    · exact ok_cmp _
    · exact ok_leL)
theorem s_isN {j : Nat} {p' : Pos} (ha : SO C W Φ shs x a) : SndE C W (.Compare x [.Is] [.Constant .none j p'] pos) (evE Φ shs (.op1 .isN a)) :=
  snd_op1 ha (fun X hX => pe_cmp (pc_isN (PEo hX x)) rfl) ok_isN
theorem s_notN {j : Nat} {p' : Pos} (ha : SO C W Φ shs x a) : SndE C W (.Compare x [.IsNot] [.Constant .none j p'] pos) (evE Φ shs (.op1 .notN a)) :=
  snd_op1 ha (fun X hX => pe_cmp (pc_notN (PEo hX x)) rfl) ok_notN
theorem t_isN {j : Nat} {p' : Pos} (ha : SO C W Φ shs x a) : SndT C W (.Compare x [.Is] [.Constant .none j p'] pos) (evE Φ shs (.op1 .isN a)) :=
  sndT_op1 ha (fun X hX => pt_cmp (pc_isN (PEo hX x)) rfl) ok_isN
theorem t_notN {j : Nat} {p' : Pos} (ha : SO C W Φ shs x a) : SndT C W (.Compare x [.IsNot] [.Constant .none j p'] pos) (evE Φ shs (.op1 .notN a)) :=
  sndT_op1 ha (fun X hX => pt_cmp (pc_notN (PEo hX x)) rfl) ok_notN
/-! ### subscripts -/
def plainIx : Expr → Bool
  | .Slice _ _ _ _ => false
  | _ => true
theorem plainIx_ok {y : Expr} (h : plainIx y = true) : PlainIx y := fun o i => by
  cases y <;> first | rfl | (cases h)
theorem s_ix (hp : plainIx y = true) (ha : SO C W Φ shs x a) (hb : SO C W Φ shs y b) : SndE C W (.Subscript x y pos) (evE Φ shs (.op2 .ix a b)) :=
  snd_op2 (r := rIx C.K) ha hb (fun X hX => by rw [← hX.K]; exact pe_ix ix_seq (PEo hX x) (PEo hX y) (plainIx_ok hp)) ok_ix
/-! ### built-in functions -/
theorem pe_b1 {id : String} {f : Str} {r : List V → Hp → VK → Prop} {p : Pos} (hg : isGl C.sc f = true) (hm : C.mg f = none) (hv : bootBuiltins f = some (.builtin id)) (hn : f ≠ "__name__") (hdb : (f == ("__debug__" : Str)) = false) (ns : noStar x = true)
    (X : Cx) (hX : AtE C W X) (hc : CallR X (.builtin id) r) : PE X (.Call (.Name f p) [x] [] pos) (fun σ H Q => tE C W x σ H fun v H1 => r [v] H1 Q) :=
  pe_callB hc (gl_of hX hg) (by rw [hX.mg]; exact hm) hv (pa_cons (PEo hX x) pa_nil (star_cons ns _ _)) hn hdb (star_cons ns _ _) rfl
theorem pe_b2 {id : String} {f : Str} {r : List V → Hp → VK → Prop} {p : Pos} (hg : isGl C.sc f = true) (hm : C.mg f = none) (hv : bootBuiltins f = some (.builtin id)) (hn : f ≠ "__name__") (hdb : (f == ("__debug__" : Str)) = false) (ns : noStar x = true) (ns2 : noStar y = true)
    (X : Cx) (hX : AtE C W X) (hc : CallR X (.builtin id) r) : PE X (.Call (.Name f p) [x, y] [] pos) (fun σ H Q => tE C W x σ H fun v H1 => tE C W y σ H1 fun u H2 => r [v, u] H2 Q) :=
  pe_callB hc (gl_of hX hg) (by rw [hX.mg]; exact hm) hv (pa_cons (PEo hX x) (pa_cons (PEo hX y) pa_nil (star_cons ns2 _ _)) (star_cons ns _ _)) hn hdb (star_cons ns _ _) (plain_back (by simp [noStars, ns2]))
theorem pe_t1 {T : String} {f : Str} {r : List V → Hp → VK → Prop} {p : Pos} (hg : isGl C.sc f = true) (hm : C.mg f = none) (hv : bootBuiltins f = some (.type T)) (hn : f ≠ "__name__") (hdb : (f == ("__debug__" : Str)) = false) (ns : noStar x = true)
    (X : Cx) (hX : AtE C W X) (hc : CallR X (.type T) r) : PE X (.Call (.Name f p) [x] [] pos) (fun σ H Q => tE C W x σ H fun v H1 => r [v] H1 Q) :=
  pe_callTy hc (gl_of hX hg) (by rw [hX.mg]; exact hm) hv (pa_cons (PEo hX x) pa_nil (star_cons ns _ _)) hn hdb (star_cons ns _ _) rfl
/-- the one-place built-ins by name -/
def b1 : P1 → Option Str
  | .len => some "len" | .abs => some "abs" | .int => some "int" | .tupl => some "tuple" | .list => some "list" | .sum => some "sum" | .any => some "any" | .all => some "all"
  | _ => none
theorem s_b1 {p : P1} {f : Str} {q : Pos} (B : BltOk C) (h : b1 p = some f) (hg : isGl C.sc f = true) (ns : noStar x = true) (ha : SO C W Φ shs x a) : SndE C W (.Call (.Name f q) [x] [] pos) (evE Φ shs (.op1 p a)) := by
  cases p <;> first | (cases h; done) | (cases h)
  · exact snd_op1 (r := fun v H Q => ∃ x n, [v] = [x] ∧ LenV C.K x H n ∧ Q (.int n) H) ha (fun X hX => by
      rw [← hX.K]
      have := pe_b1 (pos := pos) (p := q) hg (B _ (by decide +kernel)) PySem.boot_len (by decide +kernel) (by decide +kernel) ns X hX call_len
      exact this) ok_len
  · exact snd_op1 ha (fun X hX => pe_b1 hg (B _ (by decide +kernel)) boot_abs (by decide +kernel) (by decide +kernel) ns X hX call_abs) ok_abs
  · exact snd_op1 ha (fun X hX => pe_t1 hg (B _ (by decide +kernel)) boot_int (by decide +kernel) (by decide +kernel) ns X hX (CallR.or call_int1 call_int_str)) ok_int
  · exact snd_op1 (r := fun v H Q => ∃ p ys, [v] = [V.ref p] ∧ ((SqL C.K H p ys ∧ GT.MkT H ys Q) ∨ (SqT C.K H p ys ∧ Q (.ref p) H))) ha (fun X hX => by
      rw [← hX.K]
      have := pe_t1 (pos := pos) (p := q) hg (B _ (by decide +kernel)) (T := "tuple") (by decide +kernel) (by decide +kernel) (by decide +kernel) ns X hX GT.call_tuple_ofN
      exact this) ok_tupl
  · exact snd_op1 (r := fun v H Q => (∃ p ys, [v] = [V.ref p] ∧ (SqL C.K H p ys ∨ SqT C.K H p ys) ∧ ∀ l, H l = none → Q (.ref l) (upd H l (.lst ys))) ∨ rListS C.K [v] H Q) ha (fun X hX => by
      rw [← hX.K]
      have := pe_t1 (pos := pos) (p := q) hg (B _ (by decide +kernel)) (T := "list") (by decide +kernel) (by decide +kernel) (by decide +kernel) ns X hX (CallR.or call_list_of (cr_listS hX.calm))
      exact this) ok_list
  · exact snd_op1 (r := fun v H Q => rSum C.K [v] H Q ∨ rSumT C.K [v] H Q) ha (fun X hX => pe_b1 (r := fun xs H Q => rSum C.K xs H Q ∨ rSumT C.K xs H Q) hg (B _ (by decide +kernel)) (id := "sum") (by decide +kernel) (by decide +kernel) (by decide +kernel) ns X hX (by rw [← hX.K]; exact CallR.or (cr_sum hX.calm) (cr_sumT hX.calm))) ok_sum
  · exact snd_op1 (r := fun v H Q => rAny C.K [v] H Q) ha (fun X hX => pe_b1 hg (B _ (by decide +kernel)) (id := "any") (by decide +kernel) (by decide +kernel) (by decide +kernel) ns X hX (by rw [← hX.K]; exact cr_any hX.calm)) ok_any
  · exact snd_op1 (r := fun v H Q => rAll C.K [v] H Q) ha (fun X hX => pe_b1 hg (B _ (by decide +kernel)) (id := "all") (by decide +kernel) (by decide +kernel) (by decide +kernel) ns X hX (by rw [← hX.K]; exact cr_all hX.calm)) ok_all
theorem s_max {q : Pos} (B : BltOk C) (hg : isGl C.sc "max" = true) (ns : noStar x = true) (ns2 : noStar y = true) (ha : SO C W Φ shs x a) (hb : SO C W Φ shs y b) : SndE C W (.Call (.Name "max" q) [x, y] [] pos) (evE Φ shs (.op2 .max a b)) :=
  snd_op2 ha hb (fun X hX => pe_b2 hg (B _ (by decide +kernel)) (id := "max") (by decide +kernel) (by decide +kernel) (by decide +kernel) ns ns2 X hX (call_max2 hX.calm)) ok_max
def isiTy : Nat → Option Str
  | 0 => some "tuple" | 1 => some "bool" | 2 => some "str" | 3 => some "int" | _ => none
theorem s_isi {t : Nat} {f : Str} {q q2 : Pos} (B : BltOk C) (h : isiTy t = some f) (hg : isGl C.sc "isinstance" = true) (hg2 : isGl C.sc f = true) (ns : noStar x = true) (ha : SO C W Φ shs x a) : SndE C W (.Call (.Name "isinstance" q) [x, .Name f q2] [] pos) (evE Φ shs (.op1 (.isi t) a)) := by
  have go : ∀ (f : Str) (T : String), isGl C.sc f = true → C.mg f = none → bootBuiltins f = some (.type T) → f ≠ "__name__" → (f == ("__debug__" : Str)) = false → isiName t = T → t < 4 → SndE C W (.Call (.Name "isinstance" q) [x, .Name f q2] [] pos) (evE Φ shs (.op1 (.isi t) a)) :=
    fun f T hg2 hm hv hn hdb hT ht => snd_op1 (r := fun v H Q => rIsi C.K [v, .ty (isiName t)] H Q) ha (fun X hX => by
      rw [← hX.K]
      refine pe_callB (r := rIsi X.K) call_isi (gl_of hX hg) (by rw [hX.mg]; exact B _ (by decide +kernel)) (by decide +kernel) (pa_cons (PEo hX x) (pa_cons (pe_bltn (v := .ty (isiName t)) (gl_of hX hg2) (by rw [hX.mg]; exact hm) hv (by rw [hT]; rfl) hn hdb) pa_nil rfl) (star_cons ns _ _)) (by decide +kernel) (by decide +kernel) (star_cons ns _ _) rfl) (ok_isi t ht)
  rcases t with _ | _ | _ | _ | t
  · cases h; exact go _ "tuple" hg2 (B _ (by decide +kernel)) (by decide +kernel) (by decide +kernel) (by decide +kernel) rfl (by decide)
  · cases h; exact go _ "bool" hg2 (B _ (by decide +kernel)) (by decide +kernel) (by decide +kernel) (by decide +kernel) rfl (by decide)
  · cases h; exact go _ "str" hg2 (B _ (by decide +kernel)) (by decide +kernel) (by decide +kernel) (by decide +kernel) rfl (by decide)
  · cases h; exact go _ "int" hg2 (B _ (by decide +kernel)) (by decide +kernel) (by decide +kernel) (by decide +kernel) rfl (by decide)
  · cases h
/-! ### in -/
theorem flat_rep {K : PySem.W.Frag} {M : Hp} {d : D} {v : V} (f : flatD d = true) (r : Rep K M d v) : flatV v = true := by
  cases d <;> first | (cases f; done) | (simp only [Rep] at r; subst r; rfl)
theorem eqF_rep {K : PySem.W.Frag} {M : Hp} {d e : D} {v u : V} (f : flatD d = true) (g : flatD e = true) (r : Rep K M d v) (q : Rep K M e u) : eqV v u = eqF d e := by
  cases d <;> first | (cases f; done) | skip
  all_goals cases e <;> first | (cases g; done) | (simp only [Rep] at r q; subst r q; rfl)
theorem flats_rep {K : PySem.W.Frag} {M : Hp} : ∀ {ds : List D} {vs : List V}, ds.all flatD = true → Reps K M ds vs → vs.all flatV = true
  | [], _, _, h => by simp only [Reps] at h; subst h; rfl
  | d :: ds, _, f, h => by
    simp only [Reps] at h
    obtain ⟨v, vs', rfl, h1, h2⟩ := h
    rw [List.all_cons, Bool.and_eq_true] at f ⊢
    exact ⟨flat_rep f.1 h1, flats_rep f.2 h2⟩
theorem any_rep {K : PySem.W.Frag} {M : Hp} {e : D} {u : V} (g : flatD e = true) (q : Rep K M e u) : ∀ {ds : List D} {vs : List V}, ds.all flatD = true → Reps K M ds vs → inV u vs = ds.any fun z => eqF z e
  | [], _, _, h => by simp only [Reps] at h; subst h; rfl
  | d :: ds, _, f, h => by
    simp only [Reps] at h
    obtain ⟨v, vs', rfl, h1, h2⟩ := h
    rw [List.all_cons, Bool.and_eq_true] at f
    have ih := any_rep g q f.2 h2
    unfold inV at ih ⊢
    rw [List.any_cons, List.any_cons, eqF_rep f.1 g h1 q, ih]
theorem count_rep {K : PySem.W.Frag} {M : Hp} {e : D} {u : V} (g : flatD e = true) (q : Rep K M e u) : ∀ {ds : List D} {vs : List V}, ds.all flatD = true → Reps K M ds vs → vs.countP (fun y => eqV y u) = ds.countP fun z => eqF z e
  | [], _, _, h => by simp only [Reps] at h; subst h; rfl
  | d :: ds, _, f, h => by
    simp only [Reps] at h
    obtain ⟨v, vs', rfl, h1, h2⟩ := h
    rw [List.all_cons, Bool.and_eq_true] at f
    rw [List.countP_cons, List.countP_cons, count_rep g q f.2 h2, eqF_rep f.1 g h1 q]
theorem top_flat {K : PySem.W.Frag} {d : D} {v : V} (f : flatD d = true) (r : RepT K M H d v) : Rep K M d v := by
  cases d <;> first | (cases f; done) | (simpa only [RepT, Rep] using r)
theorem ok_in (neg : Bool) : Ok2 C.K (fun x y H Q => rIn C.K neg x y H Q ∨ rInP C.K neg x y H Q) (pIn neg) := by
  intro M H d e v u res Q sm rd re q k
  cases e <;> simp only [pIn] at q <;> try (cases q; done)
  · split at q
    · rename_i xs hz
      rw [Bool.and_eq_true] at hz
      have rd := top_flat hz.1 rd
      obtain ⟨a, vs, rfl, h1, h2⟩ := re
      cases q
      refine .inl ⟨a, vs, rfl, .inr (SqT.up sm h1), flat_rep hz.1 rd, flats_rep hz.2 h2, ?_⟩
      rw [any_rep hz.1 rd hz.2 h2]
      exact PR.val0 sm k (by simp [Rep])
    · obtain ⟨a, vs, rfl, h1, h2⟩ := re
      obtain ⟨x, ys, a1, a2, a3, a4, a5, rfl⟩ := ok_inD (u := .ref a) sm rd (fun ys e => .inr (.tup (SqT.up sm h1) (dp_reps sm h2 e))) q
      exact .inr ⟨x, ys, a1, a2, a3, a4, a5, PR.val0 sm k (by simp [Rep])⟩
  · split at q
    · rename_i xs hz
      rw [Bool.and_eq_true] at hz
      have rd := top_flat hz.1 rd
      obtain ⟨a, vs, rfl, h1, h2⟩ := re
      cases q
      refine .inl ⟨a, vs, rfl, .inl (SqL.of h1), flat_rep hz.1 rd, flats_rep hz.2 h2, ?_⟩
      rw [any_rep hz.1 rd hz.2 h2]
      exact PR.val0 sm k (by simp [Rep])
    · obtain ⟨a, vs, rfl, h1, h2⟩ := re
      obtain ⟨x, ys, a1, a2, a3, a4, a5, rfl⟩ := ok_inD (u := .ref a) sm rd (fun ys e => .inl (.lst (SqL.of h1) (dp_reps sm h2 e))) q
      exact .inr ⟨x, ys, a1, a2, a3, a4, a5, PR.val0 sm k (by simp [Rep])⟩
theorem op_in_all {X : Cx} (hX : AtE C W X) : OpR X (compareOp .In) (fun x y H Q => rIn C.K false x y H Q ∨ rInP C.K false x y H Q) := by rw [← hX.K]; exact OpR.or op_in_seq (op_inP hX.room.units)
theorem op_nin_all {X : Cx} (hX : AtE C W X) : OpR X (compareOp .NotIn) (fun x y H Q => rIn C.K true x y H Q ∨ rInP C.K true x y H Q) := by rw [← hX.K]; exact OpR.or op_notIn_seq (op_ninP hX.room.units)
theorem t_inn (hp : plainSet y = true) (ha : SO C W Φ shs x a) (hb : SO C W Φ shs y b) : SndT C W (.Compare x [.In] [y] pos) (evE Φ shs (.op2 .inn a b)) :=
  sndT_cmp ha hb (fun X hX => pt_cmpR (op_in_all hX) (PEo hX x) (PEo hX y) (by cases y <;> first | rfl | (cases hp))) (ok_in false)
theorem t_nin (hp : plainSet y = true) (ha : SO C W Φ shs x a) (hb : SO C W Φ shs y b) : SndT C W (.Compare x [.NotIn] [y] pos) (evE Φ shs (.op2 .nin a b)) :=
  sndT_cmp ha hb (fun X hX => pt_cmpR (op_nin_all hX) (PEo hX x) (PEo hX y) (by cases y <;> first | rfl | (cases hp))) (ok_in true)
/-! ### methods that read -/
def rCount (K : PySem.W.Frag) : V → List V → Hp → VK → Prop := fun x xs H Q => ∃ (p : Addr) (ys : List V) (y : V), x = .ref p ∧ xs = [y] ∧ SqL K H p ys ∧ flatV y = true ∧ ys.all flatV = true ∧ Q (.int (ys.countP fun z => eqV z y : Nat)) H
theorem countP_eqU {x : V} : ∀ {xs : List V} {us : List Value}, Vals xs us → xs.all flatV = true → us.countP (eqU x) = xs.countP fun y => eqV y x
  | _, _, .nil, _ => rfl
  | y :: xs, u :: us, .cons r t, f => by
    rw [List.all_cons, Bool.and_eq_true] at f
    rw [List.countP_cons, List.countP_cons, eqU_of r f.1, countP_eqU t f.2]
theorem mt_count' {X : Cx} : MtR X "list.count" (rCount X.K) := by
  intro pins s σ H x xs v us Q I rx rxs h
  obtain ⟨p, ys, y, rfl, rfl, hs, fy, fys, q⟩ := h
  cases rx
  obtain ⟨u, rfl, ru⟩ := rxs.one
  obtain ⟨its, rv, ⟨⟨cls, dd, data, sl⟩, n, ho, hc, hdn, hd⟩, hlen⟩ := I.list hs
  simp only at hc hd
  subst hc hd
  refine call_meets PySem.F.slot_list_count ⟨_, ho, rfl⟩ PySem.F.entry_list_count (PySem.F.args_list_count_2 _ _)
    (SeqAt.list_countAt p its.toArray n dd sl u (eqU y)) ⟨ho, fun w hw => mem_eqAt ru fy rv fys w (by simpa using hw), ?_⟩
  refine ⟨.int (ys.countP fun z => eqV z y : Nat), H, I.tok _, ⟨s.toks, ?_⟩, q⟩
  show Value.int ((its.toArray.toList.countP (eqU y) : Nat) : Int) s.toks = _
  rw [show its.toArray.toList = its by simp, countP_eqU rv fys]
theorem snd_mop {whole : Expr} {p : Pm} {TY : V → Hp → Prop} {r : V → List V → Hp → VK → Prop} (ho : SO C W Φ shs x a) (ho2 : SO C W Φ shs y b)
    (pe : ∀ X, AtE C W X → PE X whole (fun σ H Q => tE C W x σ H fun v H1 => TY v H1 ∧ tE C W y σ H1 fun u H2 => r v [u] H2 Q)) (ty : ∀ M H d v, Same M H → recv p d = true → RepT C.K M H d v → TY v H)
    (ok : Ok2 C.K (fun v u => r v [u]) (pm p)) : SndE C W whole (evE Φ shs (.mop p a b)) := by
  intro M H σ nv Q st hd
  refine tE.by pe ?_
  rw [evE] at hd
  refine SndO.then ho st hd fun o nv1 v M1 H1 e1 st1 ov s1 hd1 => ?_
  cases l0 : look nv1 o with
  | none => rw [l0] at hd1; exact hd1.elim
  | some d0 =>
    rw [l0] at hd1
    simp only at hd1
    by_cases hr : recv p d0 = true
    · rw [if_pos hr] at hd1
      refine ⟨ty M1 H1 d0 v st1.ext hr (look_ok st1 ov l0), ?_⟩
      refine SndO.then ho2 st1 hd1 fun o2 nv2 u M2 H2 e2 st2 ou s2 hd2 => ?_
      have ov2 := OpdR.mono s2.mm ov
      cases l : look nv2 o with
      | none => rw [l] at hd2; exact hd2.elim
      | some d =>
        cases l2 : look nv2 o2 with
        | none => rw [l, l2] at hd2; exact hd2.elim
        | some e =>
          rw [l, l2] at hd2
          have hd3 : DoneE C W M2 H2 σ nv2 (Rs.of (pm p d e) nv2) Q := hd2
          cases q : pm p d e with
          | none => rw [q] at hd3; exact hd3.elim
          | some res =>
            rw [q] at hd3
            exact ok M2 H2 d e v u res Q st2.ext (look_ok st2 ov2 l) (look_ok st2 ou l2) q fun v' M' H' p' h' => prim_done hd3 st2 p' h'
    · rw [if_neg hr] at hd1; exact hd1.elim
theorem base_of (x : Expr) (f : Str) (env : PySem.Env) (h : plainBase x = true) : attributeBase x f env (eval x env) = eval x env := by
  cases x with
  | Call g as ks p =>
    cases as with
    | cons a as => cases g <;> rfl
    | nil =>
      cases ks with
      | cons k ks => cases g <;> rfl
      | nil => cases h
  | _ => rfl
theorem pe_m {T id : String} {f : Str} {r : V → List V → Hp → VK → Prop} {apos : Pos} (pa : PlainAttrs T) (slot : Slot T f id) (hty : typeOf (.builtin id) = pure (.type "method_descriptor")) (hl : (apos.endLine == pos.line) = true) (ns : noStar y = true)
    (hb : ∀ env, attributeBase x f env (eval x env) = eval x env) (X : Cx) (hX : AtE C W X) (hm : MtR X id r) : PE X (.Call (.Attribute x f apos) [y] [] pos) (fun σ H Q => tE C W x σ H fun v H1 => tyV C.K T v H1 ∧ tE C W y σ H1 fun u H2 => r v [u] H2 Q) := by
  rw [← hX.K]
  refine pe_bm pa slot hty hm (PEo hX x) (pa_cons (PEo hX y) pa_nil (star_cons ns _ _)) (hb _) ?_ hl (star_cons ns _ _) rfl
  rw [star_cons ns]
  rfl
theorem s_count {apos : Pos} (hl : (apos.endLine == pos.line) = true) (ns : noStar y = true) (hb : plainBase x = true) (ha : SO C W Φ shs x a) (hy : SO C W Φ shs y b) : SndE C W (.Call (.Attribute x "count" apos) [y] [] pos) (evE Φ shs (.mop .count a b)) := by
  refine snd_mop (TY := tyV C.K "list") (r := rCount C.K) ha hy (fun X hX => pe_m PySem.F.plainAttrs_list PySem.F.slot_list_count PySem.F.type_list_count hl ns (fun env => base_of x _ env hb) X hX (by rw [← hX.K]; exact mt_count')) (fun M H d v sm hr rd => ?_) ?_
  · cases d <;> first | (cases hr; done) | skip
    obtain ⟨p, vs, rfl, h1, h2⟩ := rd
    exact .inl ⟨rfl, vs, SqL.of h1⟩
  · intro M H d e v u res Q sm rd re q k
    cases d <;> simp only [pm, pCount] at q <;> try (cases q; done)
    split at q <;> try (cases q; done)
    rename_i xs hz
    rw [Bool.and_eq_true] at hz
    obtain ⟨p, vs, rfl, h1, h2⟩ := rd
    have re := top_flat hz.1 re
    cases q
    refine ⟨p, vs, u, rfl, rfl, SqL.of h1, flat_rep hz.1 re, flats_rep hz.2 h2, ?_⟩
    rw [count_rep hz.1 re hz.2 h2]
    exact PR.val0 sm k (by simp [Rep])
theorem mt_sidx {X : Cx} : MtR X "str.index" (fun x xs H Q => ∃ (a b : Str), x = .str a ∧ xs = [.str b] ∧ ∃ k, Txt.index0 a b = some k ∧ Q (.int (k : Nat)) H) := by
  intro pins s σ H x xs v us Q I rx rs h
  obtain ⟨a, b, rfl, rfl, k, hk, hq⟩ := h
  obtain ⟨t, rfl⟩ := rx
  cases rs with
  | cons r1 rs =>
    cases rs
    obtain ⟨u, rfl⟩ := r1
    cases q : Builtin.Str.occurrences a b 0 a.length 1 with
    | nil => unfold Txt.index0 at hk; rw [q] at hk; cases hk
    | cons k' rest =>
      unfold Txt.index0 at hk
      rw [q] at hk
      cases hk
      exact PySem.SC.index q ⟨.int (k : Nat), H, I.tok _, ⟨_, rfl⟩, hq⟩
theorem s_sidx {apos : Pos} (hl : (apos.endLine == pos.line) = true) (ns : noStar y = true) (hb : plainBase x = true) (ha : SO C W Φ shs x a) (hy : SO C W Φ shs y b) : SndE C W (.Call (.Attribute x "index" apos) [y] [] pos) (evE Φ shs (.mop .sidx a b)) := by
  refine snd_mop (TY := tyV C.K "str") (r := fun x xs H Q => ∃ (a b : Str), x = .str a ∧ xs = [.str b] ∧ ∃ k, Txt.index0 a b = some k ∧ Q (.int (k : Nat)) H) ha hy (fun X hX => pe_m PySem.F.plainAttrs_str PySem.F.slot_str_index PySem.F.type_str_index hl ns (fun env => base_of x _ env hb) X hX mt_sidx) (fun M H d v sm hr rd => ?_) ?_
  · cases d <;> first | (cases hr; done) | skip
    simp only [RepT] at rd
    subst rd
    rfl
  · intro M H d e v u res Q sm rd re q k
    cases d <;> cases e <;> simp only [pm, pIndex] at q <;> try (cases q; done)
    obtain ⟨n, h1, h2⟩ := bnd q
    subst h2
    simp only [RepT] at rd re
    exact ⟨_, _, rd, by rw [re], n, h1, PR.val0 sm k (by simp [Rep])⟩
theorem s_join {apos : Pos} (hl : (apos.endLine == pos.line) = true) (ns : noStar y = true) (hb : plainBase x = true) (ha : SO C W Φ shs x a) (hy : SO C W Φ shs y b) : SndE C W (.Call (.Attribute x "join" apos) [y] [] pos) (evE Φ shs (.mop .join a b)) := by
  refine snd_mop (TY := tyV C.K "str") (r := fun x xs H Q => ∃ a p, ∃ ys : List Str, x = .str a ∧ xs = [.ref p] ∧ (SqL C.K H p (ys.map V.str) ∨ SqT C.K H p (ys.map V.str)) ∧ (ys.map (·.length)).sum + ys.length * a.length ≤ 16777216 ∧ Q (.str (Txt.join a ys)) H) ha hy
    (fun X hX => by
      have := pe_m (x := x) (y := y) (pos := pos) (apos := apos) PySem.F.plainAttrs_str PySem.F.slot_str_join PySem.F.type_str_join hl ns (fun env => base_of x _ env hb) X hX mt_join
      rw [hX.K] at this
      exact this) (fun M H d v sm hr rd => ?_) ?_
  · cases d <;> first | (cases hr; done) | skip
    simp only [RepT] at rd
    subst rd
    rfl
  · intro M H d e v u res Q sm rd re q k
    cases d <;> cases e <;> simp only [pm, pJoin] at q <;> try (cases q; done)
    rename_i z xs
    obtain ⟨p, vs, rfl, h1, h2⟩ := re
    simp only [RepT] at rd
    cases e1 : strsD xs with
    | none => rw [e1] at q; cases q
    | some ys =>
      rw [e1] at q
      simp only at q
      split at q <;> try (cases q; done)
      rename_i hz
      cases q
      have e2 := strsD_ok h2 e1
      subst e2
      exact ⟨z, p, ys, rd, rfl, .inl (SqL.of h1), hz, PR.val0 sm k (by simp [Rep])⟩
end
end
end G
namespace G
open PySem PySem.Spec PyProof.Rows L2
variable [Tb]
structure AtS (C : Cfg) (W : WX) (X : Cx) : Prop where
  e : AtE C W X
  po : PassesOwn (model X.prog X.w) X.A X.env X.xe
  stk : X.stack = X.env :: X.outer
  fr : X.env.frame = some X.env.locals
  ex : X.ex = []
/-- the protected slots are stored to by no name -/
def PrOk (C : Cfg) : Prop := ∀ x i, C.st x = true → C.N[i]? = some x → i ∉ C.pr
section
variable {C : Cfg} {W : WX} {M H M1 H1 : Hp} {σ σ' : L2.St} {nv nv1 : Nv} {Φ : Fn} {shs : Nat → Nat → Shape}
structure tS (C : Cfg) (W : WX) (x : Stmt)  (D : Ends) (σ : L2.St) (H : Hp) : Prop where
  un : ∀ X, AtS C W X → ∀ pins s, Inv X pins σ H s → wpAny (model X.prog X.w) X.A (exec x X.env) (SP X pins D) X.xe s
structure tB (C : Cfg) (W : WX) (xs : List Stmt)  (D : Ends) (σ : L2.St) (H : Hp) : Prop where
  un : ∀ X, AtS C W X → ∀ pins s, Inv X pins σ H s → wpAny (model X.prog X.w) X.A (execs xs X.env) (SP X pins D) X.xe s
theorem PSo {X : Cx} (h : AtS C W X) (x : Stmt) : PS X x (tS C W x) := ⟨fun pins s σ H D I t => t.un X h pins s I⟩
theorem PSso {X : Cx} (h : AtS C W X) (x : List Stmt) : PSs X x (tB C W x) := ⟨fun pins s σ H D I t => t.un X h pins s I⟩
theorem tS.by {x : Stmt} {t : TS} {σ : L2.St} {H : Hp} {D : Ends} (ps : ∀ X, AtS C W X → PS X x t) (h : t D σ H) : tS C W x D σ H := ⟨fun X hX pins s I => (ps X hX).run pins s σ H D I h⟩
theorem tB.by {x : List Stmt} {t : TS} {σ : L2.St} {H : Hp} {D : Ends} (ps : ∀ X, AtS C W X → PSs X x t) (h : t D σ H) : tB C W x D σ H := ⟨fun X hX pins s I => (ps X hX).run pins s σ H D I h⟩
/-- the protected slots stand -/
def Pk (C : Cfg) (σ σ' : L2.St) : Prop := σ'.length = σ.length ∧ ∀ i ∈ C.pr, σ'[i]? = σ[i]?
theorem Pk.refl (C : Cfg) (σ : L2.St) : Pk C σ σ := ⟨rfl, fun _ _ => rfl⟩
theorem Pk.trans {C : Cfg} {a b c : L2.St} (h : Pk C a b) (k : Pk C b c) : Pk C a c := ⟨k.1.trans h.1, fun i hi => (k.2 i hi).trans (h.2 i hi)⟩
def DoneS (C : Cfg) (W : WX) (M H : Hp) (σ : L2.St) (nv : Nv) (res : Rs Fl) (D : Ends) : Prop := match res with
  | .ok (.ret r) nv' => ∀ σ' v M' H', Pk C σ σ' → Step M H (Own σ nv) M' H' (fun a => Own σ' nv' a ∨ ResO r v a) → StR C.K M' H' σ' nv' → RR C.K M' H' (Own σ' nv') r v → D.rt v H'
  | .ok .nx nv' => ∀ σ' M' H', Pk C σ σ' → Step M H (Own σ nv) M' H' (Own σ' nv') → StR C.K M' H' σ' nv' → D.nx σ' H'
  | .ok .brk nv' => ∀ σ' M' H', Pk C σ σ' → Step M H (Own σ nv) M' H' (Own σ' nv') → StR C.K M' H' σ' nv' → D.bk σ' H'
  | .ok .cnt nv' => ∀ σ' M' H', Pk C σ σ' → Step M H (Own σ nv) M' H' (Own σ' nv') → StR C.K M' H' σ' nv' → D.ct σ' H'
  | .exc c as nv' => ∀ σ' cls d M' H', Pk C σ σ' → Step M H (Own σ nv) M' H' (Own σ' nv') → StR C.K M' H' σ' nv' → ExR C c as cls d H' → W cls d σ' H'
  | .stuck => False
theorem DoneS.later {res : Rs Fl} {D : Ends} (h : DoneS C W M H σ nv res D) (s : Step M H (Own σ nv) M1 H1 (Own σ' nv1)) (p : Pk C σ σ') : DoneS C W M1 H1 σ' nv1 res D := by
  cases res with
  | ok f nv' =>
    cases f with
    | ret r => exact fun σ2 v M' H' p' s' => h σ2 v M' H' (p.trans p') (s.trans s')
    | nx => exact fun σ2 M' H' p' s' => h σ2 M' H' (p.trans p') (s.trans s')
    | brk => exact fun σ2 M' H' p' s' => h σ2 M' H' (p.trans p') (s.trans s')
    | cnt => exact fun σ2 M' H' p' s' => h σ2 M' H' (p.trans p') (s.trans s')
  | exc c as nv' => exact fun σ2 cls d M' H' p' s' => h σ2 cls d M' H' (p.trans p') (s.trans s')
  | stuck => exact h
def SndS (C : Cfg) (W : WX) (x : Stmt) (f : Nv → Rs Fl) : Prop := ∀ M H σ nv D, StR C.K M H σ nv → DoneS C W M H σ nv (f nv) D → tS C W x D σ H
def SndB (C : Cfg) (W : WX) (xs : List Stmt) (f : Nv → Rs Fl) : Prop := ∀ M H σ nv D, StR C.K M H σ nv → DoneS C W M H σ nv (f nv) D → tB C W xs D σ H
/-- first an expression (its list may stay own), then what g says -/
theorem SndE.thenS {x : Expr} {f : Nv → Rs R} {g : R → Nv → Rs Fl} {D : Ends} {Q : VK} (h : SndE C W x f) (st : StR C.K M H σ nv) (hd : DoneS C W M H σ nv ((f nv).bind g) D)
    (k : ∀ r nv1 v M1 H1, f nv = .ok r nv1 → StR C.K M1 H1 σ nv1 → RR C.K M1 H1 (Own σ nv1) r v → Step M H (Own σ nv) M1 H1 (fun a => Own σ nv1 a ∨ ResO r v a) → DoneS C W M H σ nv (g r nv1) D → Q v H1) : tE C W x σ H Q := by
  refine h M H σ nv Q st ?_
  cases e : f nv with
  | ok r nv1 =>
    rw [e] at hd
    intro v M' H' s st' rr
    exact k r nv1 v M' H' e st' rr s hd
  | exc c as nv1 => rw [e] at hd; exact fun cls d M' H' s st' ex => hd σ cls d M' H' (Pk.refl C σ) s st' ex
  | stuck => rw [e] at hd; exact hd.elim
/-- .. frozen -/
theorem SndE.thenSF {x : Expr} {f : Nv → Rs R} {g : R → Nv → Rs Fl} {D : Ends} {Q : VK} (h : SndE C W x f) (st : StR C.K M H σ nv) (hd : DoneS C W M H σ nv ((f nv).bind g) D)
    (k : ∀ r nv1 v M1 H1, f nv = .ok r nv1 → StR C.K M1 H1 σ nv1 → Rep C.K M1 r.frz v → DoneS C W M1 H1 σ nv1 (g r nv1) D → Q v H1) : tE C W x σ H Q := by
  refine SndE.thenS h st hd fun r nv1 v M1 H1 e st1 rr s hd1 => ?_
  obtain ⟨M2, st2, rp, s2, _⟩ := freeze st1 rr s
  exact k r nv1 v M2 H1 e st2 rp (hd1.later s2 (Pk.refl C σ))
theorem SndT.thenS {x : Expr} {f : Nv → Rs R} {g' : Bool → Nv → Rs Fl} {D : Ends} {Q : Bool → Hp → Prop} (h : SndT C W x f) (st : StR C.K M H σ nv) (hd : DoneS C W M H σ nv ((tst f nv).bind g') D)
    (k : ∀ b nv1 M1 H1, tst f nv = .ok b nv1 → StR C.K M1 H1 σ nv1 → Step M H (Own σ nv) M1 H1 (Own σ nv1) → DoneS C W M1 H1 σ nv1 (g' b nv1) D → Q b H1) : tT C W x σ H Q := by
  refine h M H σ nv Q st ?_
  cases e : tst f nv with
  | ok b nv1 =>
    rw [e] at hd
    intro M' H' s st'
    exact k b nv1 M' H' e st' s (hd.later s (Pk.refl C σ))
  | exc c as nv1 => rw [e] at hd; exact fun cls d M' H' s st' ex => hd σ cls d M' H' (Pk.refl C σ) s st' ex
  | stuck => rw [e] at hd; exact hd.elim
theorem ife_tst {c : E} {g : Bool → Nv → Rs Fl} (nv : Nv) : ((evE Φ shs c nv).bind fun r nv1 => match r with | .val (.bl true) => g true nv1 | .val (.bl false) => g false nv1 | _ => .stuck) = (tst (evE Φ shs c) nv).bind g := by
  unfold tst
  cases evE Φ shs c nv with
  | ok r nv1 =>
    cases r with
    | val d =>
      cases d with
      | bl k => cases k <;> rfl
      | _ => rfl
    | own ds => rfl
  | exc c as nv1 => rfl
  | stuck => rfl
/-! ### blocks -/
theorem sndB_nil : SndB C W [] (evB Φ shs []) := by
  intro M H σ nv D st hd
  refine tB.by (fun X hX => pss_nil) ?_
  rw [evB] at hd
  exact hd σ M H (Pk.refl C σ) (Step.refl _ _ _) st
theorem sndB_cons {x : Stmt} {xs : List Stmt} {s : S} {ss : List S} (h1 : SndS C W x (evS Φ shs s)) (h2 : SndB C W xs (evB Φ shs ss)) : SndB C W (x :: xs) (evB Φ shs (s :: ss)) := by
  intro M H σ nv D st hd
  refine tB.by (fun X hX => pss_cons (PSo hX x) (PSso hX xs)) ?_
  rw [evB] at hd
  refine h1 M H σ nv _ st ?_
  cases e : evS Φ shs s nv with
  | ok f nv1 =>
    rw [e] at hd
    cases f with
    | nx => exact fun σ' M' H' p' s' st' => h2 M' H' σ' nv1 D st' (hd.later s' p')
    | brk => exact hd
    | cnt => exact hd
    | ret r => exact hd
  | exc c as nv1 => rw [e] at hd; exact hd
  | stuck => rw [e] at hd; exact hd
theorem sndS_ret {x : Expr} {e : E} {pos : Pos} (h : SndE C W x (evE Φ shs e)) : SndS C W (.Return (some x) pos) (evS Φ shs (.ret e)) := by
  intro M H σ nv D st hd
  refine tS.by (fun X hX => ps_ret (PEo hX.e x)) ?_
  rw [evS] at hd
  exact SndE.thenS h st hd fun r nv1 v M1 H1 e st1 rr s hd1 => hd1 σ v M1 H1 (Pk.refl C σ) s st1 rr
def isComp : Expr → Bool
  | .ListComp _ _ _ _ => true
  | .SetComp _ _ _ _ => true
  | .DictComp _ _ _ _ _ => true
  | _ => false
theorem swaps_no {x : Expr} (h : isComp x = false) (t : Option Expr) (l : Nat) (env : PySem.Env) : swapsWith x t l env = pure false := by
  cases x <;> first | rfl | (cases h)
theorem sndS_expr {x : Expr} {e : E} {pos : Pos} (hc : isComp x = false) (h : SndE C W x (evE Φ shs e)) : SndS C W (.Expr x pos) (evS Φ shs (.expr e)) := by
  intro M H σ nv D st hd
  refine tS.by (fun X hX => ps_expr (PEo hX.e x) (swaps_no hc _ _ _)) ?_
  rw [evS] at hd
  exact SndE.thenSF h st hd fun r nv1 v M1 H1 e st1 rp hd1 => hd1 σ M1 H1 (Pk.refl C σ) (Step.refl _ _ _) st1
theorem sndS_ife {c : Expr} {a b : List Stmt} {e : E} {sa sb : List S} {pos : Pos} (hc : SndT C W c (evE Φ shs e)) (ha : SndB C W a (evB Φ shs sa)) (hb : SndB C W b (evB Φ shs sb)) : SndS C W (.If c a b pos) (evS Φ shs (.ife e sa sb)) := by
  intro M H σ nv D st hd
  refine tS.by (fun X hX => ps_if (PTo hX.e c) (PSso hX a) (PSso hX b)) ?_
  rw [evS] at hd
  have hd : DoneS C W M H σ nv ((tst (evE Φ shs e) nv).bind fun k nv1 => if k = true then evB Φ shs sa nv1 else evB Φ shs sb nv1) D := by
    rw [← ife_tst]
    exact hd
  refine SndT.thenS hc st hd fun k nv1 M1 H1 e1 st1 s1 hd1 => ?_
  cases k with
  | true => rw [if_pos rfl] at hd1 ⊢; exact ha M1 H1 σ nv1 D st1 hd1
  | false => rw [if_neg (by decide)] at hd1 ⊢; exact hb M1 H1 σ nv1 D st1 hd1
/-! ### stores -/
/-- an own thing is stored -/
theorem StR.putF (st : StR C.K M H σ nv) {i : Nat} {f0 : Kd} {ds : List G.D} {a : Addr} {o : HO} {u : Unit} {nv' : Nv} (e : stSlot i (.lv f0 ds) nv = .ok u nv') (e1 : H a = some o) (e2 : M a = none) (e3 : ¬ Own σ nv a) (e4 : LoR C.K M f0 ds o) :
    StR C.K M H (σ.set i (some (.ref a))) nv' ∧ (∀ b, Own (σ.set i (some (.ref a))) nv' b → Own σ nv b ∨ b = a) ∧ nv' = nv.set i (some (.lv f0 ds)) := by
  have e' : nv' = nv.set i (some (.lv f0 ds)) := by
    unfold stSlot at e
    split at e
    · cases e
    · cases e; rfl
    · cases e
  have hi : i < nv.length := by
    unfold stSlot at e
    split at e
    · cases e
    · rename_i q; exact (List.getElem?_eq_some_iff.mp q).1
    · cases e
  subst e'
  have k : ∀ (j : Nat) (s : Sl), (nv.set i (some (.lv f0 ds)))[j]? = some (some s) → (i = j ∧ s = .lv f0 ds) ∨ (i ≠ j ∧ nv[j]? = some (some s)) := fun j s h => by
    by_cases q : i = j
    · subst q
      rw [List.getElem?_set_self hi] at h
      cases h
      exact .inl ⟨rfl, rfl⟩
    · rw [List.getElem?_set_ne q] at h
      exact .inr ⟨q, h⟩
  have hσ : (σ.set i (some (V.ref a)))[i]? = some (some (V.ref a)) := List.getElem?_set_self (by rw [← st.len]; exact hi)
  refine ⟨⟨st.ext, by simp [st.len], fun j s h => ?_, fun j l g g' xs ys w h1 h2 h3 h4 => ?_, st.tb⟩, fun b h => ?_, rfl⟩
  · rcases k j s h with ⟨rfl, rfl⟩ | ⟨q, h⟩
    · exact ⟨_, hσ, a, o, rfl, e2, e1, e4⟩
    · rw [List.getElem?_set_ne q]
      exact st.get j s h
  · have no : ∀ (m : Nat) (f : Kd) (zs : List G.D), i ≠ m → nv[m]? = some (some (.lv f zs)) → σ[m]? ≠ some (some (V.ref a)) := fun m f zs hm h5 h6 => e3 (.inl ⟨m, f, zs, h5, h6⟩)
    rcases k j _ h1 with ⟨rfl, _⟩ | ⟨q1, h1⟩ <;> rcases k l _ h2 with ⟨rfl, _⟩ | ⟨q2, h2⟩
    · rfl
    · rw [hσ] at h3
      cases h3
      rw [List.getElem?_set_ne q2] at h4
      exact (no l g' ys q2 h2 h4).elim
    · rw [hσ] at h4
      cases h4
      rw [List.getElem?_set_ne q1] at h3
      exact (no j g xs q1 h1 h3).elim
    · rw [List.getElem?_set_ne q1] at h3
      rw [List.getElem?_set_ne q2] at h4
      exact st.apart j l g g' xs ys w h1 h2 h3 h4
  · rcases h with ⟨j, f, zs, h1, h2⟩ | h
    case inr => exact .inl (.inr h)
    rcases k j _ h1 with ⟨rfl, _⟩ | ⟨q, h1⟩
    · rw [hσ] at h2
      exact .inr (by cases h2; rfl)
    · rw [List.getElem?_set_ne q] at h2
      exact .inl (.inl ⟨j, f, zs, h1, h2⟩)
/-- a result is stored -/
theorem StR.putR (st : StR C.K M H σ nv) {i : Nat} {r : R} {v : V} {u : Unit} {nv' : Nv} (e : stSlot i r.slot nv = .ok u nv') (rr : RR C.K M H (Own σ nv) r v) :
    StR C.K M H (σ.set i (some v)) nv' ∧ (∀ a, Own (σ.set i (some v)) nv' a → Own σ nv a ∨ ResO r v a) := by
  cases r with
  | val d =>
    obtain ⟨h1, h2, _⟩ := st.putD (u := u) e rr
    exact ⟨h1, fun a h => .inl (h2 a h)⟩
  | own ds =>
    obtain ⟨a, vs, rfl, e1, e2, e3, e4⟩ := rr
    obtain ⟨h1, h2, _⟩ := st.putF (f0 := .l true) (u := u) e e1 e2 e3 ⟨vs, rfl, e4⟩
    exact ⟨h1, fun b h => (h2 b h).imp id fun z => by rw [z]; rfl⟩
theorem pk_set {i : Nat} {v : Option V} (h : i ∉ C.pr) : Pk C σ (σ.set i v) := ⟨List.length_set, fun j hj => by
  rw [List.getElem?_set_ne]
  intro z
  subst z
  exact h hj⟩
/-- name = value -/
theorem stored {i : Nat} {r : R} {v : V} {D : Ends} (pr : i ∉ C.pr) (st : StR C.K M1 H1 σ nv1) (rr : RR C.K M1 H1 (Own σ nv1) r v) (s : Step M H (Own σ nv) M1 H1 (fun a => Own σ nv1 a ∨ ResO r v a))
    (hd : DoneS C W M H σ nv ((stSlot i r.slot nv1).bind fun _ nv2 => .ok .nx nv2) D) : D.nx (σ.set i (some v)) H1 := by
  cases e : stSlot i r.slot nv1 with
  | ok u nv2 =>
    rw [e] at hd
    obtain ⟨h1, h2⟩ := st.putR e rr
    exact hd _ M1 H1 (pk_set pr) (s.less h2) h1
  | exc c as nv2 =>
    unfold stSlot at e
    split at e <;> cases e
  | stuck => rw [e] at hd; exact hd.elim
def onLine (scope : Scope) (sc : Scope) (y : Str) (py pos : Pos) : Bool := decide (sc.names.lookup y = some .local) && (py.line == pos.line) && !(scope.names.any fun (n, k) => n == y && (k == .local || k == .cell))
theorem sndS_asgN {i : Nat} {y : Str} {py pos : Pos} {x : Expr} {e : E} (po : PrOk C) (hi : C.N[i]? = some y) (hs : C.st y = true) (hc : isComp x = false) (h : SndE C W x (evE Φ shs e)) :
    SndS C W (.Assign [.Name y py] x pos) (evS Φ shs (.asg (.nm i) e)) := by
  intro M H σ nv D st hd
  refine tS.by (fun X hX => by
    obtain ⟨h1, h2⟩ := hX.e.fn y hs
    exact ps_set hX.e.nd (by rw [hX.e.N]; exact hi) h1 (PEo hX.e x) (swaps_no hc _ _ _) h2) ?_
  rw [evS] at hd
  exact SndE.thenS h st hd fun r nv1 v M1 H1 e1 st1 rr s hd1 => stored (po y i hs hi) st1 rr s hd1
/-- y = [.. for ..], a local on the comprehension's own line -/
theorem sndS_asgC {scope : Scope} {t : T} {k : Ik} {es cs : List E} {elt : E} {own : List Nat} {tg it ex : Expr} {ifs : List Expr} {cpos : Pos} {i : Nat} {y : Str} {py pos : Pos} (po : PrOk C) (hi : C.N[i]? = some y) (hs : C.st y = true)
    (hol : onLine scope C.sc y py cpos = true) (hk : C.sc.kind = .function)
    (ok : blkOk C.N C.sc scope own = true) (ht : chkT1 C.N (tgOk scope) t tg = true) (hts : ∀ i ∈ t.slots, i ∈ own) (ps : plainSet it = true)
    (hit : SndI C W tg it (itf Φ shs k es)) (hc : SndC (C.blk scope) W0 ifs (evCs Φ shs cs)) (he : SndE (C.blk scope) W0 ex (evE Φ shs elt)) :
    SndS C W (.Assign [.Name y py] (.ListComp ex [⟨tg, it, ifs, 0⟩] scope cpos) pos) (evS Φ shs (.asg (.nm i) (.comp t k es cs elt own))) := by
  intro M H σ nv D st hd
  have eo : (own.map fun i => (C.N.getD i "", i)).map (·.2) = own := by
    rw [List.map_map]
    exact List.map_id' own
  unfold onLine at hol
  simp only [Bool.and_eq_true, decide_eq_true_eq, Bool.not_eq_true'] at hol
  refine tS.by (t := tAsg (tLc (tI C W tg it) (tG (C.blk scope) W0 tg) (tC1 (C.blk scope) W0 ifs) (tE (C.blk scope) W0 ex) own) (gName i)) (fun X hX => ?_) ?_
  · have := ps_setLc (X := X) (i := i) (y := y) (py := py) (spos := pos) (pos := cpos) (own := own.map fun i => (C.N.getD i "", i)) hX.e.calm hX.e.nd (by rw [hX.e.N]; exact hi) (by rw [hX.e.sc]; exact hol.1.1)
      (sw_true (by rw [hX.e.sc]; exact hk) (by rw [hX.e.sc]; exact hol.1.1) hol.1.2 hol.2) (PIo hX.e tg it) (blkOk_by (by rw [hX.e.N, hX.e.sc]; exact ok)) (fun s H D cl fp => PGo (hX.e.blk scope s H D cl fp) tg) (fun s H D cl fp => PTso (hX.e.blk scope s H D cl fp) ifs) (fun s H D cl fp => PEo (hX.e.blk scope s H D cl fp) ex)
      (fun x => by cases it <;> first | rfl | (cases ps))
    rw [eo] at this
    exact this
  · rw [evS] at hd
    refine comp_reads ht hts hit hc he st ?_
    cases e : evE Φ shs (.comp t k es cs elt own) nv with
    | ok r nv1 =>
      rw [e] at hd
      intro v M1 H1 s st1 rr
      exact stored (po y i hs hi) st1 rr s hd
    | exc c as nv1 => rw [e] at hd; exact fun cls d M' H' s st' ex => hd σ cls d M' H' (Pk.refl C σ) s st' ex
    | stuck => rw [e] at hd; exact hd.elim
def isTupE : Expr → Bool
  | .Tuple _ _ _ => true
  | .List _ _ => true
  | _ => false
theorem swapped_no {tg x : Expr} (h : isTupE x = false) (env : PySem.Env) : swappedStores [tg] x env = pure none := by
  unfold swappedStores
  cases tg <;> cases x <;> first | rfl | (cases h)
/-- targets in a tuple -/
theorem sndS_asgT {t : T} {tg x : Expr} {pos : Pos} {e : E} (po : PrOk C) (ht : chkT1 C.N C.st t tg = true) (htp : isTupE tg = true) (nst : noStar tg = true) (hx : isTupE x = false) (hc : isComp x = false) (tn : ∀ i, t ≠ .nm i) (hts : ∀ i ∈ t.slots, i ∉ C.pr) (h : SndE C W x (evE Φ shs e)) :
    SndS C W (.Assign [tg] x pos) (evS Φ shs (.asg t e)) := by
  intro M H σ nv D st hd
  refine tS.by (fun X hX => ps_asg (PEo hX.e x) (PGo hX.e tg) (swaps_no hc _ _ _) (swapped_no hx _) (by rw [asg_cons nst]; rfl)) ?_
  rw [evS] at hd
  refine SndE.thenSF h st hd fun r nv1 v M1 H1 e1 st1 rp hd1 => ?_
  have ea : asgR t r nv1 = asgD t r.frz nv1 := by
    cases t <;> first | rfl | exact absurd rfl (tn _)
  rw [ea] at hd1
  rcases asgD_ok t (d := r.frz) (nv := nv1) rfl with e2 | ⟨nv2, e2, ln⟩
  · rw [e2] at hd1; exact hd1.elim
  · rw [e2] at hd1
    refine sndG t (W := W) ht st1 rp e2 fun σ2 st2 o2 q2 => ?_
    refine hd1 σ2 M1 H1 ⟨?_, fun i hi => (q2 i fun z => hts i z hi).1⟩ ((Step.refl _ _ _).less o2) st2
    rw [← st2.len, ln, st1.len]
end
end G
namespace G
open PySem PySem.Spec PyProof.Rows L2
variable [Tb]
section
variable {C : Cfg} {W : WX} {M H M1 H1 : Hp} {σ σ' : L2.St} {nv nv1 : Nv} {Φ : Fn} {shs : Nat → Nat → Shape}
/-! ### loops -/
theorem sndS_for {t : T} {k : Ik} {es : List E} {ss : List S} {tg it : Expr} {body : List Stmt} {pos : Pos} (po : PrOk C) (ht : chkT1 C.N C.st t tg = true) (hts : ∀ i ∈ t.slots, i ∉ C.pr) (ps : plainSet it = true) (hi : SndI C W tg it (itf Φ shs k es)) (hb : SndB C W body (evB Φ shs ss)) :
    SndS C W (.For tg it body [] pos) (evS Φ shs (.for_ t k es ss)) := by
  intro M H σ nv D st hd
  refine tS.by (fun X hX => ps_for hX.po hX.e.calm (PIo hX.e tg it) (PGo hX.e tg) (PSso hX body) (fun x => by cases it <;> first | rfl | (cases ps))) ?_
  rw [evS] at hd
  refine hi M H σ nv _ st ?_
  unfold itf
  cases e1 : evOs Φ shs es nv with
  | stuck => rw [e1] at hd; exact hd.elim
  | exc c as nv1 => rw [e1] at hd; exact fun cls d M' H' s st' ex => hd σ cls d M' H' (Pk.refl C σ) s st' ex
  | ok os nv1 =>
    rw [e1] at hd
    simp only [Rs.bind] at hd ⊢
    cases e2 : items k os with
    | none => rw [e2] at hd; exact hd.elim
    | some xs =>
      rw [e2] at hd
      simp only at hd ⊢
      intro M1 H1 s1 st1 J jok
      have hd := hd.later s1 (Pk.refl C σ)
      refine ⟨fun i m σ' H' => m = xs.length - i ∧ i ≤ xs.length ∧ ∃ M' nv', Same M1 M' ∧ StR C.K M' H' σ' nv' ∧ DoneS C W M' H' σ' nv' (forLoop (fun d nv => (asgD t d nv).bind fun _ nv2 => evB Φ shs ss nv2) (xs.drop i) nv') D,
        ⟨xs.length, by simp, Nat.zero_le _, M1, nv1, Same.refl _, st1, hd⟩, ?_⟩
      rintro i m σ' H' ⟨rfl, hile, M', nv', mm, st', hdl⟩
      by_cases hlt : i < xs.length
      · right
        have hx : xs[i]? = some xs[i] := List.getElem?_eq_getElem hlt
        obtain ⟨g1, g2⟩ := jok.go M' H' i xs[i] mm st'.ext hx
        refine ⟨g1, fun σ2 H2 => ∃ M' nv', Same M1 M' ∧ StR C.K M' H2 σ2 nv' ∧ DoneS C W M' H2 σ2 nv' (forLoop (fun d nv => (asgD t d nv).bind fun _ nv2 => evB Φ shs ss nv2) (xs.drop (i + 1)) nv') D, fun σ2 H2 h => ⟨xs.length - (i + 1), by omega, rfl, hlt, h⟩, fun x H3 hy => ?_⟩
        obtain ⟨M3, p3, r3⟩ := g2 x H3 hy
        have st3 : StR C.K M3 H3 σ' nv' := st'.grow p3.mm (fun a o h => p3.hh _ _ h) p3.ext (fun a h => by
          cases q : M3 a with
          | none => rfl
          | some o =>
            obtain ⟨h1, ws, h2⟩ := st'.own_at h
            rcases p3.mnew a o q with z | z
            · rw [h1] at z; cases z
            · rw [h2] at z; cases z)
        have s3 : Step M' H' (Own σ' nv') M3 H3 (Own σ' nv') := p3.step _
        have ed : xs.drop i = xs[i] :: xs.drop (i + 1) := (List.drop_eq_getElem_cons hlt)
        rw [ed] at hdl
        have hdl := hdl.later s3 (Pk.refl C σ')
        simp only [forLoop] at hdl
        rcases asgD_ok t (d := xs[i]) (nv := nv') rfl with e3 | ⟨nv2, e3, ln⟩
        · rw [e3] at hdl; exact hdl.elim
        · rw [e3] at hdl
          simp only [Rs.bind] at hdl
          refine sndG t (W := W) ht st3 r3 e3 fun σ4 st4 o4 q4 => ?_
          have hdl := hdl.later (σ' := σ4) (nv1 := nv2) (M1 := M3) (H1 := H3) ((Step.refl _ _ _).less o4) ⟨by rw [← st4.len, ln, st3.len], fun j hj => (q4 j fun z => hts j z hj).1⟩
          refine hb M3 H3 σ4 nv2 _ st4 ?_
          cases e5 : evB Φ shs ss nv2 with
          | stuck => rw [e5] at hdl; exact hdl
          | exc c as nv5 => rw [e5] at hdl; exact hdl
          | ok f nv5 =>
            rw [e5] at hdl
            cases f with
            | ret r => exact hdl
            | nx => exact fun σ5 M5 H5 p5 s5 st5 => ⟨M5, nv5, mm.trans (p3.mm.trans s5.mm), st5, hdl.later s5 p5⟩
            | cnt => exact fun σ5 M5 H5 p5 s5 st5 => ⟨M5, nv5, mm.trans (p3.mm.trans s5.mm), st5, hdl.later s5 p5⟩
            | brk => exact hdl
      · have ei : i = xs.length := by omega
        subst ei
        left
        refine ⟨jok.stop M' H' mm st'.ext, ?_⟩
        rw [List.drop_length] at hdl
        exact hdl σ' M' H' (Pk.refl C σ') (Step.refl _ _ _) st'
/-! ### changing a list -/
theorem StR.changeK (st : StR C.K M H σ nv) {i : Nat} {f f1 : Kd} {xs ys : List G.D} {ws : HO} {a : Addr} (q : nv[i]? = some (some (.lv f xs))) (e : σ[i]? = some (some (.ref a))) (r : LoR C.K M f1 ys ws) :
    StR C.K M (upd H a ws) σ (nv.set i (some (.lv f1 ys))) ∧ Step M H (Own σ nv) M (upd H a ws) (Own σ (nv.set i (some (.lv f1 ys)))) := by
  obtain ⟨v, e1, a', vs, rfl, e2, e3, e4⟩ := st.get i _ q
  rw [e] at e1
  cases e1
  have hi : i < nv.length := (List.getElem?_eq_some_iff.mp q).1
  have k : ∀ (j : Nat) (s : Sl), (nv.set i (some (.lv f1 ys)))[j]? = some (some s) → (i = j ∧ s = .lv f1 ys) ∨ (i ≠ j ∧ nv[j]? = some (some s)) := fun j s h => by
    by_cases z : i = j
    · subst z
      rw [List.getElem?_set_self hi] at h
      cases h
      exact .inl ⟨rfl, rfl⟩
    · rw [List.getElem?_set_ne z] at h
      exact .inr ⟨z, h⟩
  have cext : Same M (upd H a ws) := fun b o h => by
    rw [upd_ne (ne_of_none h e2)]
    exact st.ext _ _ h
  have osub : ∀ b, Own σ (nv.set i (some (.lv f1 ys))) b → Own σ nv b := fun b h => by
    rcases h with ⟨j, g, zs, h1, h2⟩ | h
    case inr => exact .inr h
    rcases k j _ h1 with ⟨rfl, z⟩ | ⟨_, h1⟩
    · exact .inl ⟨i, f, xs, q, h2⟩
    · exact .inl ⟨j, g, zs, h1, h2⟩
  refine ⟨⟨cext, by simp [st.len], fun j s h => ?_, fun j l g g' zs zs' w h1 h2 h3 h4 => ?_, fun p hp => ⟨(st.tb p hp).1, tabS_upd (st.tb p hp).2 e3 (fun _ => e4.ntbl) (fun _ => e4.next)⟩⟩, Same.refl _, fun b o h n => ?_, fun b h => .inl (osub b h), fun b h => ?_, fun b o h => .inl h⟩
  · rcases k j s h with ⟨rfl, rfl⟩ | ⟨z, h⟩
    · exact ⟨_, e, a, ws, rfl, e2, upd_same, r⟩
    · obtain ⟨w, h1, h2⟩ := st.get j s h
      refine ⟨w, h1, ?_⟩
      cases s with
      | val d => exact h2
      | fn m ds => exact h2
      | lv g zs =>
        obtain ⟨b, us, rfl, h3, h4, h5⟩ := h2
        have : b ≠ a := fun y => z (st.apart i j f g xs zs _ q h e (y ▸ h1))
        exact ⟨b, us, rfl, h3, by rw [upd_ne this]; exact h4, h5⟩
  · have get : ∀ (m : Nat) (t : Kd) (us : List G.D), (nv.set i (some (.lv f1 ys)))[m]? = some (some (.lv t us)) → ∃ t' us', nv[m]? = some (some (.lv t' us')) := fun m t us h => by
      rcases k m _ h with ⟨rfl, z⟩ | ⟨_, h⟩
      · cases z; exact ⟨f, xs, q⟩
      · exact ⟨t, us, h⟩
    obtain ⟨_, _, h1⟩ := get _ _ _ h1
    obtain ⟨_, _, h2⟩ := get _ _ _ h2
    exact st.apart j l _ _ _ _ w h1 h2 h3 h4
  · rw [upd_ne (fun z => by subst z; exact n (.inl ⟨i, f, xs, q, e⟩))]
    exact h
  · by_cases z : b = a
    · rw [z, upd_same] at h; cases h
    · rw [upd_ne z] at h; exact h
theorem StR.change (st : StR C.K M H σ nv) {i : Nat} {f : Bool} {xs ys : List G.D} {ws : List V} {a : Addr} (q : nv[i]? = some (some (.lv (.l f) xs))) (e : σ[i]? = some (some (.ref a))) (r : Reps C.K M ys ws) :
    StR C.K M (upd H a (.lst ws)) σ (nv.set i (some (.lv (.l f) ys))) ∧ Step M H (Own σ nv) M (upd H a (.lst ws)) (Own σ (nv.set i (some (.lv (.l f) ys)))) := st.changeK q e ⟨ws, rfl, r⟩
theorem stIx_ok {i : Nat} {k d : G.D} {nv nv' : Nv} {u : Unit} (h : stIx i k d nv = .ok u nv') : ∃ f xs n j, nv[i]? = some (some (.lv (.l f) xs)) ∧ k = .int n ∧ ixN xs.length n = some j ∧ nv' = nv.set i (some (.lv (.l f) (xs.set j d))) := by
  unfold stIx at h
  split at h
  · rename_i f xs n q
    split at h
    · rename_i j e
      cases h
      exact ⟨f, xs, n, j, q, rfl, e, rfl⟩
    · cases h
  · cases h
theorem stIx_r {i : Nat} {k d : G.D} {nv : Nv} : stIx i k d nv = .stuck ∨ ∃ nv', stIx i k d nv = .ok () nv' := by
  unfold stIx
  split
  · split
    · exact .inr ⟨_, rfl⟩
    · exact .inl rfl
  · exact .inl rfl
/-- xs[k] = e -/
theorem sndS_sti {i : Nat} {y z : Expr} {p1 p2 pos : Pos} {n : Str} {ix e : E} (ok : okName C.N C.sc i n = true) (hp : plainIx y = true) (hc : isComp z = false) (hy : SndE C W y (evE Φ shs ix)) (he : SndE C W z (evE Φ shs e)) :
    SndS C W (.Assign [.Subscript (.Name n p1) y p2] z pos) (evS Φ shs (.sti i ix e)) := by
  intro M H σ nv D st hd
  refine tS.by (fun X hX => ps_asg (PEo hX.e z) (pg_sub (pe_name ok X hX.e) (PEo hX.e y) set_list (fun v => by cases y <;> first | rfl | (cases hp))) (swaps_no hc (some (.Subscript (.Name n p1) y p2)) pos.line X.env) (by unfold swappedStores; cases z <;> rfl) (by rfl)) ?_
  rw [evS] at hd
  refine SndE.thenSF he st hd fun r nv1 v M1 H1 e1 st1 rp hd1 => ?_
  split at hd1
  · rename_i f0 xs0 q0
    obtain ⟨w, ew, a, _, rfl, _⟩ := st1.get i _ q0
    refine ⟨_, ew, ?_⟩
    refine SndE.thenS hy st1 hd1 fun k nv2 kv M2 H2 e2 st2' rk' s2' hd2' => ?_
    obtain ⟨M3, st3, rk, s3, _⟩ := freeze st2' rk' s2'
    have hd2 := hd2'.later s3 (Pk.refl C σ)
    rcases stIx_r (i := i) (k := k.frz) (d := r.frz) (nv := nv2) with e3 | ⟨nv3, e3⟩
    · rw [e3] at hd2; exact hd2.elim
    · rw [e3] at hd2
      obtain ⟨f, xs, m, j, q, ek, ej, rfl⟩ := stIx_ok e3
      obtain ⟨w', ew', b, _, rfl, h1, h2, vs, rfl, h3⟩ := st3.get i _ q
      rw [ew] at ew'
      cases ew'
      rw [ek] at rk
      simp only [Rep] at rk
      subst rk
      refine ⟨a, vs, m, j, rfl, rfl, h2, by rw [← h3.length]; exact ej, ?_⟩
      obtain ⟨c1, c2⟩ := st3.change (ys := xs.set j r.frz) q ew (Reps.set j (Rep.mono s3.mm rp) h3)
      exact hd2 σ M3 _ (Pk.refl C σ) c2 c1
  · exact hd1.elim
/-! ### methods that change a list -/
theorem snd_mth {m : Mt} {i : Nat} {es : List E} {whole : Expr} {r : V → List V → Hp → VK → Prop} {n : Str} {p1 : Pos} {xs : List Expr} (ok : okName C.N C.sc i n = true) (h : SndA C W xs (evOs Φ shs es))
    (pe : ∀ X, AtE C W X → PE X whole (fun σ H Q => tE C W (.Name n p1) σ H fun v H1 => tyV C.K "list" v H1 ∧ tA C W xs σ H1 fun us H2 => r v us H2 Q))
    (rule : ∀ (M H : Hp) (a : Addr) (ds : List G.D) (vs : List V) (args : List G.D) (us : List V) (y : G.D) (ys : List G.D) (Q : VK), Same M H → M a = none → H a = some (.lst vs) → Reps C.K M ds vs → Reps C.K M args us → mthD m ds args = some (y, ys) →
      (∀ w ws, Rep C.K M y w → Reps C.K M ys ws → Q w (upd H a (.lst ws))) → r (.ref a) us H Q) : SndE C W whole (evE Φ shs (.mth m i es)) := by
  intro M H σ nv Q st hd
  refine tE.by pe ?_
  rw [evE] at hd
  unfold mthOn at hd
  split at hd
  · rename_i f0 xs0 q0
    obtain ⟨w, ew, a, _, rfl, e0, e1, vs0, rfl, _⟩ := st.get i _ q0
    refine tE.by (pe_name ok) ⟨_, ew, .inl ⟨rfl, vs0, SqL.of e1⟩, ?_⟩
    refine h M H σ nv _ st ?_
    cases e2 : evOs Φ shs es nv with
    | stuck => rw [e2] at hd; exact hd.elim
    | exc c as nv1 => rw [e2] at hd; exact hd
    | ok os nv1 =>
      rw [e2] at hd
      intro M1 H1 s1 st1 us hu
      have hd := DoneE.later hd s1
      simp only [Rs.bind] at hd
      split at hd
      · rename_i ds f xs q1 q2
        split at hd
        · rename_i y ys q3
          obtain ⟨w', ew', b, _, rfl, h1, h2, vs, rfl, h3⟩ := st1.get i _ q2
          rw [ew] at ew'
          cases ew'
          refine rule M1 H1 a xs vs ds us y ys Q st1.ext h1 h2 h3 (OpdsR.inls hu q1) q3 fun w ws ry rys => ?_
          obtain ⟨c1, c2⟩ := st1.change (ys := ys) q2 ew rys
          exact hd w M1 _ (c2.less fun a h => h.elim (fun z => z) False.elim) c1 ry
        · exact hd.elim
      · exact hd.elim
  · exact hd.elim
end
end G
namespace G
open PySem PySem.Spec PyProof.Rows L2
variable [Tb]
section
variable {C : Cfg} {W : WX} {M H M1 H1 : Hp} {σ σ' : L2.St} {nv nv1 : Nv} {Φ : Fn} {shs : Nat → Nat → Shape}
/-! ### methods by name -/
theorem pe_mm {T id : String} {f : Str} {r : V → List V → Hp → VK → Prop} {x y : Expr} {xs : List Expr} {apos pos : Pos} (pa : PlainAttrs T) (slot : Slot T f id) (hty : typeOf (.builtin id) = pure (.type "method_descriptor")) (hl : (apos.endLine == pos.line) = true) (ns : noStars (y :: xs) = true) (few : (y :: xs).length < 30)
    (hb : ∀ env, attributeBase x f env (eval x env) = eval x env) (X : Cx) (hX : AtE C W X) (hm : MtR X id r) : PE X (.Call (.Attribute x f apos) (y :: xs) [] pos) (fun σ H Q => tE C W x σ H fun v H1 => tyV C.K T v H1 ∧ tA C W (y :: xs) σ H1 fun us H2 => r v us H2 Q) := by
  obtain ⟨n1, n2⟩ := noStars_cons ns
  rw [← hX.K]
  refine pe_bm pa slot hty hm (PEo hX x) (PAo hX (y :: xs)) (hb _) ?_ hl (star_cons n1 _ _) (plain_back n2)
  have h1 := few_back (env := X.env) (pos := pos) ns
  rw [h1]
  simp only [Bool.true_and, Bool.and_eq_true, decide_eq_true_eq]
  refine ⟨rfl, ?_⟩
  simp only [List.length_cons, List.length_nil, List.isEmpty_nil, if_true] at few ⊢
  omega
theorem s_app {i : Nat} {n : Str} {p1 apos pos : Pos} {y : Expr} {xs : List Expr} {es : List E} (ok : okName C.N C.sc i n = true) (hl : (apos.endLine == pos.line) = true) (ns : noStars (y :: xs) = true) (few : (y :: xs).length < 30) (h : SndA C W (y :: xs) (evOs Φ shs es)) :
    SndE C W (.Call (.Attribute (.Name n p1) "append" apos) (y :: xs) [] pos) (evE Φ shs (.mth .app i es)) :=
  snd_mth (r := rAppend) ok h (fun X hX => pe_mm PySem.F.plainAttrs_list PySem.F.slot_list_append PySem.F.type_list_append hl ns few (fun _ => rfl) X hX mt_append) (fun M H a ds vs args us w ws Q sm hM hH hr ha hd k => by
    match args, hd with
    | [y], hd =>
      simp only [mthD] at hd
      split at hd <;> try (cases hd; done)
      rename_i hz
      cases hd
      simp only [Reps] at ha
      obtain ⟨v, us', rfl, h1, rfl⟩ := ha
      refine ⟨a, vs, v, rfl, rfl, hH, ?_, k .non _ (by simp [Rep]) (hr.append (Reps.one h1))⟩
      rw [← hr.length, sizeLine_eq]; exact hz
    | [], hd => cases hd
    | _ :: _ :: _, hd => simp [mthD] at hd)
end
end G
namespace G
open PySem PySem.Spec PyProof.Rows L2
variable [Tb]
/-- where the body of a def runs -/
def cfgOf (P : Program) (w : World) (K : PySem.W.Frag) (mg : Str → Option Value) (base : Heap) (sc : Scope) (N : List Str) (pr : List Nat) (k : Nat) (exA : Nat → Option Addr) (cd : Option (Value × Str) := none) : Cfg :=
  { P := P, w := w, K := K, mg := mg, base := base, N := N, sc := sc, cd := cd, st := fun x => (decide (sc.names.lookup x = some .local) || decide (sc.names.lookup x = some .cell)) && !(pr.any fun i => decide (N[i]? = some x)), k := k, exA := exA, pr := pr }
theorem mapM_at {α β : Type} {f : α → Option β} : ∀ {l : List α} {ys : List β}, l.mapM f = some ys → ys.length = l.length ∧ ∀ (p : Nat) (s : β), ys[p]? = some s → ∃ x : α, l[p]? = some x ∧ f x = some s
  | [], ys, h => by
    rw [List.mapM_nil] at h
    cases h
    exact ⟨rfl, fun p s e => by simp at e⟩
  | x :: l, ys, h => by
    rw [List.mapM_cons] at h
    cases e1 : f x with
    | none => rw [e1] at h; cases h
    | some y =>
      rw [e1] at h
      cases e2 : l.mapM f with
      | none => rw [e2] at h; cases h
      | some zs =>
        rw [e2] at h
        cases h
        obtain ⟨h1, h2⟩ := mapM_at e2
        refine ⟨by simp [h1], fun p s e => ?_⟩
        cases p with
        | zero => cases e; exact ⟨x, rfl, e1⟩
        | succ p => exact h2 p s (by simpa using e)
theorem outsOf_at {pr : List Nat} {ss outs : List Sl} {nv : Nv} (h : outsOf pr ss nv = some outs) {p : Nat} {s : Sl} (e : outs[p]? = some s) : if pr.contains p = true then nv[p]? = some (some s) else ss[p]? = some s := by
  obtain ⟨_, h2⟩ := mapM_at h
  obtain ⟨x, h3, h4⟩ := h2 p s e
  have hx : p = x := by
    rw [List.getElem?_range (by have := (List.getElem?_eq_some_iff.mp h3).1; simpa using this)] at h3
    exact Option.some.inj h3
  subst hx
  split at h4
  · rename_i c
    rw [if_pos c]
    cases q : nv[p]? with
    | none => rw [q] at h4; cases h4
    | some o => rw [q] at h4; cases o <;> cases h4; rfl
  · rename_i c
    rw [if_neg c]
    exact h4
theorem outsOf_len {pr : List Nat} {ss outs : List Sl} {nv : Nv} (h : outsOf pr ss nv = some outs) : outs.length = ss.length := by
  have := (mapM_at h).1
  simpa using this
theorem start_get {ss : List Sl} {n p : Nat} {s : Sl} (h : (startNv n ss)[p]? = some (some s)) : ss[p]? = some s := by
  unfold startNv at h
  by_cases hp : p < ss.length
  · rw [List.getElem?_append_left (by simpa using hp), List.getElem?_map] at h
    cases q : ss[p]? with
    | none => rw [q] at h; cases h
    | some x => rw [q] at h; cases h; rfl
  · rw [List.getElem?_append_right (by simpa using hp), List.getElem?_replicate] at h
    split at h <;> cases h
theorem start_of {N : List Str} {vs : List V} {p : Nat} (hp : p < vs.length) : (L2.start N vs)[p]? = (vs.map some)[p]? := by
  unfold L2.start
  rw [List.getElem?_append_left (by simpa using hp)]
theorem startN_of {n : Nat} {ss : List Sl} {p : Nat} (hp : p < ss.length) : (startNv n ss)[p]? = (ss.map some)[p]? := by
  unfold startNv
  rw [List.getElem?_append_left (by simpa using hp)]
theorem some_get {α : Type} {l : List α} {p : Nat} {x : α} : (l.map some)[p]? = some (some x) ↔ l[p]? = some x := by
  rw [List.getElem?_map]
  cases l[p]? <;> simp
section
variable {K : PySem.W.Frag} {M H : Hp}
theorem start_st {N : List Str} {vs : List V} {ss : List Sl} (hN : ss.length ≤ N.length) (st : StR K M H (vs.map some) (ss.map some)) : StR K M H (L2.start N vs) (startNv N.length ss) := by
  have hl : ss.length = vs.length := by simpa using st.len
  refine ⟨st.ext, by simp [L2.start, startNv, hl], fun i s h => ?_, fun i j f g xs ys v h1 h2 h3 h4 => ?_, st.tb⟩
  · have h' := start_get h
    obtain ⟨v, e1, e2⟩ := st.get i s (some_get.mpr h')
    refine ⟨v, ?_, e2⟩
    rw [start_of (hl ▸ (List.getElem?_eq_some_iff.mp h').1)]
    exact e1
  · have a1 := start_get h1
    have a2 := start_get h2
    rw [start_of (hl ▸ (List.getElem?_eq_some_iff.mp a1).1)] at h3
    rw [start_of (hl ▸ (List.getElem?_eq_some_iff.mp a2).1)] at h4
    exact st.apart i j f g xs ys v (some_get.mpr a1) (some_get.mpr a2) h3 h4
theorem start_own {N : List Str} {vs : List V} {ss : List Sl} {a : Addr} (hl : ss.length = vs.length) : Own (L2.start N vs) (startNv N.length ss) a ↔ Own (vs.map some) (ss.map some) a := by
  constructor
  · rintro (⟨i, f, ds, h1, h2⟩ | h)
    case inr => exact .inr h
    have h' := start_get h1
    rw [start_of (hl ▸ (List.getElem?_eq_some_iff.mp h').1)] at h2
    exact .inl ⟨i, f, ds, some_get.mpr h', h2⟩
  · rintro (⟨i, f, ds, h1, h2⟩ | h)
    case inr => exact .inr h
    have hp : i < ss.length := (List.getElem?_eq_some_iff.mp (some_get.mp h1)).1
    exact .inl ⟨i, f, ds, by rw [startN_of hp]; exact h1, by rw [start_of (hl ▸ hp)]; exact h2⟩
/-- at the end of a body: the parameters' slots -/
theorem outs_st {C : Cfg} {vs : List V} {ss outs : List Sl} {σ' : L2.St} {nv' : Nv} {M' H' : Hp} {N : List Str} (st : StR K M H (vs.map some) (ss.map some)) (lk : lentOk C.pr ss = true)
    (pk : Pk C (L2.start N vs) σ') (mm : Same M M') (st' : StR K M' H' σ' nv') (ho : outsOf C.pr ss nv' = some outs) :
    StR K M' H' (vs.map some) (outs.map some) ∧ ∀ a, Own (vs.map some) (outs.map some) a → Own σ' nv' a := by
  have hl : ss.length = vs.length := by simpa using st.len
  have hol := outsOf_len ho
  have key : ∀ (p : Nat) (s : Sl), outs[p]? = some s → (nv'[p]? = some (some s) ∧ σ'[p]? = (vs.map some)[p]?) ∨ (ss[p]? = some s ∧ ∀ f ds, s ≠ Sl.lv f ds) := by
    intro p s e
    have hp : p < vs.length := by
      have := (List.getElem?_eq_some_iff.mp e).1
      omega
    have h := outsOf_at ho e
    split at h
    · rename_i c
      exact .inl ⟨h, by rw [pk.2 p (by simpa using c), start_of hp]⟩
    · rename_i c
      refine .inr ⟨h, ?_⟩
      cases s with
      | val d => exact fun _ _ z => nomatch z
      | fn m ds => exact fun _ _ z => nomatch z
      | lv f ds =>
        exfalso
        unfold lentOk at lk
        rw [List.all_eq_true] at lk
        have := lk p (by simp; omega)
        rw [h] at this
        exact c this
  refine ⟨⟨st'.ext, by simp [hol, hl], fun i s h => ?_, fun i j f g xs ys v h1 h2 h3 h4 => ?_, st'.tb⟩, ?_⟩
  · rcases key i s (some_get.mp h) with ⟨a, b⟩ | ⟨a, n⟩
    · obtain ⟨v, e1, e2⟩ := st'.get i s a
      exact ⟨v, b ▸ e1, e2⟩
    · obtain ⟨v, e1, e2⟩ := st.get i _ (some_get.mpr a)
      refine ⟨v, e1, ?_⟩
      cases s with
      | val d => exact Rep.mono mm e2
      | fn m ds => exact FnR.mono mm e2
      | lv f ds => exact absurd rfl (n _ _)
  · rcases key i _ (some_get.mp h1) with ⟨a, b⟩ | ⟨a, e⟩
    · rcases key j _ (some_get.mp h2) with ⟨a2, b2⟩ | ⟨a2, e⟩
      · exact st'.apart i j f g xs ys v a a2 (b ▸ h3) (b2 ▸ h4)
      · exact absurd rfl (e _ _)
    · exact absurd rfl (e _ _)
  · rintro a (⟨i, f, ds, h1, h2⟩ | h)
    case inr => exact .inr h
    rcases key i _ (some_get.mp h1) with ⟨a1, b⟩ | ⟨a1, e⟩
    · exact .inl ⟨i, f, ds, a1, b ▸ h2⟩
    · exact absurd rfl (e _ _)
end
/-- a def keeps what its reckoning says -/
theorem df_ok {P : Program} {w : World} {K : PySem.W.Frag} {mg : Str → Option Value} {base : Heap} {x qual : Str} {st : Stmt} {f : Addr} {fd : FuncData} {N ps : List Str} {k : Nat} {Φ : Fn} {shs : Nat → Nat → Shape} {exA : Nat → Option Addr} {i : Nat} {d : Df} {Φ' : Fn} {C0 : Cfg} {cd : Option (Value × Str)}
    (hK : C0.K = K) (hX : C0.exA = exA) (F : Fun K x qual st f fd) (hcd0 : ∀ q, cd = some q → fd.code = q.1 ∧ q.2 = qual ++ ".<locals>.") (S : FnScope N ps (defScope st)) (hn : d.n = N.length)
    (hb : ∀ W, SndB (cfgOf P w K mg base (defScope st) N d.pr k exA cd) W (defBody st) (evB Φ shs d.body)) (hΦ : ∀ ss, Φ' i ss = runDf Φ shs d ss) :
    FnOk P w K mg base (L2.CX P w) (k + 2) f fd ps (spOf C0 Φ' i ps.length) := by
  have hle : ps.length ≤ N.length := by
    have := congrArg List.length S.pre
    rw [List.length_take] at this
    omega
  obtain ⟨oc, od, kV, doc, pm, an, cdv, ct, osl, rfl, lk, hcd⟩ := F.ex
  refine fn_of (k := k + 1) lk hcd S (fun vs H Q E h => h.1) (fun A outer s H vs Q E hr h => ?_)
  obtain ⟨hlen, M, ss, st0, hd⟩ := h
  rw [hK] at st0
  have hl : ss.length = vs.length := by simpa using st0.len
  refine ⟨_, PSso (X := cxOf (L2.CX P w) P w K mg base N qual (defScope st) f cdv A outer s H E) (C := cfgOf P w K mg base (defScope st) N d.pr k exA cd) (W := fun cls d _ H => E cls d H) ⟨⟨rfl, rfl, rfl, rfl, rfl, rfl, rfl, rfl, hr, S.nd, takes_of rfl rfl rfl rfl, fun x hx => ⟨((Bool.or_eq_true _ _).mp ((Bool.and_eq_true _ _).mp hx).1).elim (fun h => .inl (of_decide_eq_true h)) (fun h => .inr (of_decide_eq_true h)), .inl rfl⟩, fun q h => ⟨(hcd0 q h).1, (hcd0 q h).2.symm⟩⟩, passes_of rfl, rfl, rfl, rfl⟩ _, ?_⟩
  refine hb _ M H (L2.start N vs) (startNv N.length ss) _ (start_st (by omega) st0) ?_
  rw [hΦ] at hd
  unfold runDf at hd
  split at hd
  · rename_i lk
    rw [hn] at hd
    cases e : evB Φ shs d.body (startNv N.length ss) with
    | ok fl nv' =>
      rw [e] at hd
      cases fl with
      | ret r =>
        intro σ' v M' H' pk s1 st1 rr
        simp only [endDf] at hd
        cases ho : outsOf d.pr ss nv' with
        | none => rw [ho] at hd; exact hd.elim
        | some outs =>
          rw [ho] at hd
          obtain ⟨h1, h2⟩ := outs_st (C := cfgOf P w K mg base (defScope st) N d.pr k exA cd) st0 lk pk s1.mm st1 ho
          refine hd v M' H' ⟨s1.mm, fun a o h n => s1.keep a o h fun z => n ((start_own hl).mp z), fun a z => ?_, s1.dom, fun a o h => ?_⟩ (hK ▸ h1) ?_
          · rcases s1.own a (z.elim (fun z => .inl (h2 a z)) .inr) with z | z
            · exact .inl ((start_own hl).mp z)
            · exact .inr z
          · rcases s1.mnew a o h with z | z | z
            · exact .inl z
            · exact .inr (.inl ((start_own hl).mp z))
            · exact .inr (.inr z)
          · rw [hK]
            cases r with
            | val dd => exact rr
            | own ds =>
              obtain ⟨a, ws, e1, e2, e3, e4, e5⟩ := rr
              exact ⟨a, ws, e1, e2, e3, fun z => e4 (h2 a z), e5⟩
      | nx =>
        intro σ' M' H' pk s1 st1
        simp only [endDf] at hd
        cases ho : outsOf d.pr ss nv' with
        | none => rw [ho] at hd; exact hd.elim
        | some outs =>
          rw [ho] at hd
          obtain ⟨h1, h2⟩ := outs_st (C := cfgOf P w K mg base (defScope st) N d.pr k exA cd) st0 lk pk s1.mm st1 ho
          refine hd .non M' H' ⟨s1.mm, fun a o h n => s1.keep a o h fun z => n ((start_own hl).mp z), fun a z => ?_, s1.dom, fun a o h => ?_⟩ (hK ▸ h1) ?_
          · rcases s1.own a (z.elim (fun z => (h2 a z)) fun z => z.elim) with z | z
            · exact .inl ((start_own hl).mp z)
            · exact .inr z
          · rcases s1.mnew a o h with z | z | z
            · exact .inl z
            · exact .inr (.inl ((start_own hl).mp z))
            · exact .inr (.inr z)
          · simp [RR, Rep]
      | brk => exact hd.elim
      | cnt => exact hd.elim
    | exc c as nv' =>
      rw [e] at hd
      intro σ' cls dd M' H' pk s1 st1 er
      simp only [endDf] at hd
      cases ho : outsOf d.pr ss nv' with
      | none => rw [ho] at hd; exact hd.elim
      | some outs =>
        rw [ho] at hd
        obtain ⟨h1, h2⟩ := outs_st (C := cfgOf P w K mg base (defScope st) N d.pr k exA cd) st0 lk pk s1.mm st1 ho
        refine hd cls dd M' H' ⟨s1.mm, fun a o h n => s1.keep a o h fun z => n ((start_own hl).mp z), fun a z => ?_, s1.dom, fun a o h => ?_⟩ (hK ▸ h1) ?_
        · rcases s1.own a (h2 a z) with z | z
          · exact .inl ((start_own hl).mp z)
          · exact .inr z
        · rcases s1.mnew a o h with z | z | z
          · exact .inl z
          · exact .inr (.inl ((start_own hl).mp z))
          · exact .inr (.inr z)
        · obtain ⟨a, z1, z2⟩ := er
          exact ⟨a, by rw [hX]; exact z1, z2⟩
    | stuck => rw [e] at hd; exact hd.elim
  · exact hd.elim
end G
namespace G
open PySem PySem.Spec PyProof.Rows L2
variable [Tb]
theorem pr_cfg {P : Program} {w : World} {K : PySem.W.Frag} {mg : Str → Option Value} {base : Heap} {sc : Scope} {N : List Str} {pr : List Nat} {k : Nat} {exA : Nat → Option Addr} {cd : Option (Value × Str)} : PrOk (cfgOf P w K mg base sc N pr k exA cd) := by
  intro x i h1 h2 h3
  have h4 : (pr.any fun i => decide (N[i]? = some x)) = false := by
    have := ((Bool.and_eq_true _ _).mp h1).2
    simpa using this
  rw [List.any_eq_false] at h4
  exact h4 i h3 (decide_eq_true h2)
theorem ninOf {t : T} {pr : List Nat} (h : (t.slots.all fun i => !pr.contains i) = true) : ∀ i ∈ t.slots, i ∉ pr := fun i hi hp => by
  rw [List.all_eq_true] at h
  have := h i hi
  simp [hp] at this
theorem inOf {t : T} {own : List Nat} (h : (t.slots.all fun i => own.contains i) = true) : ∀ i ∈ t.slots, i ∈ own := fun i hi => by
  rw [List.all_eq_true] at h
  simpa using h i hi
section
variable {C : Cfg} {W : WX} {M H M1 H1 : Hp} {σ σ' : L2.St} {nv nv1 : Nv} {Φ : Fn} {shs : Nat → Nat → Shape}
theorem FtOk.blk {ft : Nat → Option FnI} {T : ShT} (F : FtOk C Φ ft T) (s : Scope) : FtOk (C.blk s) Φ ft T := ⟨F.at_, F.sh⟩
theorem BltOk.blk (B : BltOk C) (s : Scope) : BltOk (C.blk s) := B
theorem snd_one {op : BoolOp} {x : Expr} {pos : Pos} {f : Nv → Rs R} (h : SndE C W x f) : SndE C W (.BoolOp op [x] pos) f := fun M H σ nv Q st hd => tE.by (fun X hX => pe_one (PEo hX x)) (h M H σ nv Q st hd)
theorem snd_andN {x y : Expr} {xs : List Expr} {pos : Pos} {a b : E} (ha : SndE C W x (evE Φ shs a)) (hb : SndE C W (.BoolOp .And (y :: xs) pos) (evE Φ shs b)) : SndE C W (.BoolOp .And (x :: y :: xs) pos) (evE Φ shs (.and_ a b)) :=
  snd_and ha hb fun X hX => pe_and (PEo hX x) (PEo hX _)
theorem snd_orN {x y : Expr} {xs : List Expr} {pos : Pos} {a b : E} (ha : SndE C W x (evE Φ shs a)) (hb : SndE C W (.BoolOp .Or (y :: xs) pos) (evE Φ shs b)) : SndE C W (.BoolOp .Or (x :: y :: xs) pos) (evE Φ shs (.or_ a b)) :=
  snd_or ha hb fun X hX => pe_or (PEo hX x) (PEo hX _)
theorem so_v {i : Nat} {x : Str} {pos : Pos} (h : okName C.N C.sc i x = true) : SO C W Φ shs (.Name x pos) (.var i) := sndO_var h _
theorem so_e {x : Expr} {a : E} (na : isVar a = false) (h : SndE C W x (evE Φ shs a)) : SO C W Φ shs x a := sndO_of na h
theorem sa_b {x : Str} {p : Pos} {xs : List Expr} {i : Nat} {es : List E} (h : okName C.N C.sc i x = true) (hs : SndA C W xs (evOs Φ shs es)) : SndA C W (.Name x p :: xs) (evOs Φ shs (.brw i :: es)) := sndA_cons rfl (.inl ⟨i, rfl, x, p, rfl, h⟩) hs
theorem brw_no {e : E} (h : isBrw e = false) : ∀ i, e ≠ .brw i := fun i z => by subst z; cases h
theorem sa_e {x : Expr} {xs : List Expr} {e : E} {es : List E} (ns : noStar x = true) (nb : isBrw e = false) (h : SndE C W x (evE Φ shs e)) (hs : SndA C W xs (evOs Φ shs es)) : SndA C W (x :: xs) (evOs Φ shs (e :: es)) := sndA_cons ns (.inr ⟨brw_no nb, h⟩) hs
theorem sw_and1 {x y : Expr} {a b : E} {pos : Pos} (ha : SndT C W x (evE Φ shs a)) (hb : SndT C W y (evE Φ shs b)) : SndW C W (.BoolOp .And [x, y] pos) (evE Φ shs (.and_ a b)) := sndW_and ha (.inl ⟨rfl, hb⟩)
theorem sw_and {x y z : Expr} {xs : List Expr} {a b : E} {pos : Pos} (ha : SndT C W x (evE Φ shs a)) (hb : SndW C W (.BoolOp .And (y :: z :: xs) pos) (evE Φ shs b)) : SndW C W (.BoolOp .And (x :: y :: z :: xs) pos) (evE Φ shs (.and_ a b)) := sndW_and ha (.inr hb)
theorem sw_or1 {x y : Expr} {a b : E} {pos : Pos} (ha : SndT C W x (evE Φ shs a)) (hb : SndT C W y (evE Φ shs b)) : SndW C W (.BoolOp .Or [x, y] pos) (evE Φ shs (.or_ a b)) := sndW_or ha (.inl ⟨rfl, hb⟩)
end
end G
namespace G
open PySem PySem.Spec PyProof.Rows L2
variable [Tb]
theorem arrO_map : ∀ {ks : List Nat} {os os' : List (D ⊕ Nat)}, arrO (ks.map .inl) os = some os' → os'.length = ks.length ∧ ∀ (p x : Nat), ks[p]? = some x → os'[p]? = os[x]?
  | [], os, os', h => by
    cases h
    exact ⟨rfl, fun p x e => by simp at e⟩
  | k :: ks, os, os', h => by
    simp only [List.map_cons, arrO] at h
    split at h
    · rename_i o r' e1 e2
      cases h
      obtain ⟨h1, h2⟩ := arrO_map e2
      refine ⟨by simp [h1], fun p x e => ?_⟩
      cases p with
      | zero => cases e; simpa using e1.symm
      | succ p => simpa using h2 p x (by simpa using e)
    · cases h
theorem arrO_range {os os' : List (D ⊕ Nat)} {n : Nat} (hn : os.length = n) (h : arrO ((List.range n).map .inl) os = some os') : os' = os := by
  obtain ⟨h1, h2⟩ := arrO_map h
  rw [List.length_range] at h1
  apply List.ext_getElem?
  intro p
  by_cases hp : p < n
  · exact h2 p p (List.getElem?_range hp)
  · rw [List.getElem?_eq_none (by omega), List.getElem?_eq_none (by omega)]
theorem OpdsR.len {K : PySem.W.Frag} {M : Hp} {σ : L2.St} : ∀ {os : List (D ⊕ Nat)} {vs : List V}, OpdsR K M σ os vs → os.length = vs.length
  | [], vs, h => by
    have h : vs = [] := h
    subst h
    rfl
  | o :: os, vs, h => by
    obtain ⟨v, vs', rfl, e2, e3⟩ := h
    simp [OpdsR.len e3]
theorem vals_len {vs : List V} {us : List Value} (h : Vals vs us) : vs.length = us.length := by
  induction h with
  | nil => rfl
  | cons _ _ ih => simp [ih]
/-- a call that writes every parameter by its place -/
theorem shok_pos {K : PySem.W.Frag} {fd : FuncData} {ps : List Str} (n : Nat) (hn : ps.length = n) (b : L2.Binds K fd ps []) : ShOk K fd ps [] n ((List.range n).map .inl) := by
  refine ⟨fun us _ => us, fun s us ws hk hl hw => ?_, fun M σ os os' vs zs us ws hl hw hv hz ho ha => ?_⟩
  · have hw : ws = [] := List.length_eq_zero_iff.mp hw
    subst hw
    have := b s us hk (by simpa [hn] using hl)
    simpa using this
  · have hw : ws = [] := List.length_eq_zero_iff.mp hw
    subst hw
    cases hz
    rw [List.append_nil] at ho
    have e := arrO_range (by rw [ho.len, vals_len hv, hl]) ha
    subst e
    exact ⟨vs, hv, ho, by rw [vals_len hv, hl, hn]⟩
section
variable {P : Program} {w : World} {K : PySem.W.Frag} {mg : Str → Option Value} {base : Heap} {k : Nat} {exA : Nat → Option Addr}
theorem ft_move {sc sc' : Scope} {N N' : List Str} {pr pr' : List Nat} {Φ : Fn} {ft : Nat → Option FnI} {T : ShT} {cd cd' : Option (Value × Str)} (F : FtOk (cfgOf P w K mg base sc N pr k exA cd) Φ ft T) : FtOk (cfgOf P w K mg base sc' N' pr' k exA cd') Φ ft T := ⟨F.at_, F.sh⟩
theorem fn_zero {C : Cfg} {f : Addr} {fd : FuncData} {ps : List Str} {ds : List Df} {shs : Nat → Nat → Shape} {i : Nat} : FnOk P w K mg base (L2.CX P w) 0 f fd ps (spOf C (calls ds shs 0) i ps.length) :=
  ⟨fun vs H Q E h => h.1, fun A outer s H args us vs Q E hr he hb hv hs => by
    obtain ⟨_, M, ss, _, h⟩ := hs
    exact h.elim⟩
/-- what the law promises -/
def spLaw (K : PySem.W.Frag) : Sp := fun vs H Q _ => ∃ (a : Addr) (ns : List Int), vs = [.ref a] ∧ SqL K H a (ns.map V.int) ∧ ns.length ≤ 63 ∧ (∀ p ∈ Tb.tabs, H p.1 = some (.tbl #[])) ∧ ∀ H', Q (.bl true) H'
/-- the heap without the tables -/
noncomputable def hidT (H : Hp) : Hp := open Classical in fun b => if TbA b then none else H b
theorem hidT_some {H : Hp} {b : Addr} {o : HO} (h : hidT H b = some o) : H b = some o := by
  unfold hidT at h
  split at h
  · cases h
  · exact h
theorem law_imp {C : Cfg} {Φ : Fn} {i : Nat} (hK : C.K = K) (h : ∀ ns : List Int, ns.length ≤ 63 → ∃ outs, Φ i [.val (.scr ns)] = .ok (.val (.bl true)) outs) (vs : List V) (H : Hp) (Q : VK) (E : XK) (sp : spLaw K vs H Q E) : spOf C Φ i 1 vs H Q E := by
  obtain ⟨a, ns, rfl, hS, hl, hT, q⟩ := sp
  obtain ⟨outs, e⟩ := h ns hl
  have key : ∀ o : HO, (∀ ps, o ≠ .tbl ps) → H a = some o → hidT H a = some o := fun o no ho => by
    unfold hidT
    rw [if_neg]
    · exact ho
    · rintro ⟨p, hp, rfl⟩
      rw [hT p hp] at ho
      cases ho
      exact no _ rfl
  have hS' : SqL K (hidT H) a (ns.map V.int) := by
    rcases hS with (h | ⟨o, h⟩) | h
    · exact .inl (.inl (key _ (fun _ z => nomatch z) h))
    · exact .inl (.inr ⟨o, key _ (fun _ z => nomatch z) h⟩)
    · exact .inr h
  refine ⟨rfl, hidT H, [.val (.scr ns)], ⟨fun b o h => hidT_some h, rfl, fun i s h => ?_, fun i j f g xs ys v h => ?_, fun p hp => ⟨?_, .nil (hT p hp)⟩⟩, ?_⟩
  · match i, h with
    | 0, h => cases h; exact ⟨.ref a, rfl, by simp only [SlR, Rep]; exact ⟨a, rfl, hK ▸ hS'⟩⟩
    | i + 1, h => simp at h
  · match i, h with
    | 0, h => cases h
    | i + 1, h => simp at h
  · unfold hidT
    rw [if_pos ⟨p, hp, rfl⟩]
  · rw [e]
    intro v M' H' _ _ r
    simp only [RR, Rep] at r
    subst r
    exact q H'
end
end G
namespace G
open PySem PySem.Spec PyProof.Rows L2
theorem cx_no {P : Program} {w : World} {H : Hp} {s s' : Shared} {e : Value} {o : List Env} (h : L2.CX P w o H s (fun _ _ _ => False) e s') : False := by
  obtain ⟨_, _, _, _, _, _, _, _, _, _, _, _, z⟩ := h
  exact z.elim
end G
namespace G
theorem calls_succ {ds : List Df} {shs : Nat → Nat → Shape} {k i : Nat} {d : Df} {ss : List Sl} (h : ds[i]? = some d) : calls ds shs (k + 1) i ss = runDf (calls ds shs k) shs d ss := by
  simp only [calls, h]
end G
namespace G
open PySem PySem.Spec PyProof.Rows L2
variable [Tb]
section
variable {C : Cfg} {W : WX} {M H M1 H1 : Hp} {σ σ' : L2.St} {nv nv1 : Nv} {Φ : Fn} {shs : Nat → Nat → Shape} {K : PySem.W.Frag}
/-! ### slices -/
end
end G
namespace G
open PySem PySem.Spec PyProof.Rows L2
variable [Tb]
section
variable {C : Cfg} {W : WX} {M H M1 H1 : Hp} {σ σ' : L2.St} {nv nv1 : Nv} {Φ : Fn} {shs : Nat → Nat → Shape} {K : PySem.W.Frag}
/-! ### displays with starred elements -/
theorem Reps.app {M : Hp} : ∀ {ds es : List D} {vs us : List V}, Reps K M ds vs → Reps K M es us → Reps K M (ds ++ es) (vs ++ us)
  | [], es, vs, us, h, h2 => by
    simp only [Reps] at h
    subst h
    exact h2
  | d :: ds, es, vs, us, h, h2 => by
    simp only [Reps] at h
    obtain ⟨v, vs', rfl, e2, e3⟩ := h
    show Reps K M (d :: (ds ++ es)) (v :: (vs' ++ us))
    simp only [Reps]
    exact ⟨v, _, rfl, e2, Reps.app e3 h2⟩
theorem Reps.up {M M' : Hp} (e : Same M M') : ∀ {ds : List D} {vs : List V}, Reps K M ds vs → Reps K M' ds vs
  | [], vs, h => by simpa only [Reps] using h
  | d :: ds, vs, h => by
    simp only [Reps] at h ⊢
    obtain ⟨v, vs', rfl, e2, e3⟩ := h
    exact ⟨v, vs', rfl, Rep.mono e e2, Reps.up e e3⟩
end
end G
namespace G
open PySem PySem.Spec PyProof.Rows L2
variable [Tb]
open AutoSeq1 (wpAny_loadPart')
section
variable {prog : Program} {w : World} {A : Around} {E : Value → Shared → Prop} {s : Shared}
end
end G
namespace G
open PySem PySem.Spec PyProof.Rows L2
variable [Tb]
section
variable {C : Cfg} {W : WX} {M H M1 H1 : Hp} {σ σ' : L2.St} {nv nv1 : Nv} {Φ : Fn} {shs : Nat → Nat → Shape} {K : PySem.W.Frag}
/-! ### reversed -/
end
end G
set_option maxHeartbeats 1000000
namespace GZ
open PySem PySem.Spec PyProof.Rows L2
open PySem.Sem (wp)
/-! ### zip of any two of list and tuple -/
/-- an iterator over a tuple (true) or a list -/
def It2 (t : Bool) (h : Heap) (it l : Addr) (k : Nat) : Prop := match t with
  | true => h.IsTupleIter it l k
  | false => h.IsListIter it l k
def Sq2 (t : Bool) (h : Heap) (l : Addr) (xs : Array Value) : Prop := match t with
  | true => h.IsTuple l xs
  | false => h.IsList l xs
theorem It2.ext {t : Bool} {h h' : Heap} {a b l : Addr} {k : Nat} (x : It2 t h a l k) (e : Heap.ExtBut b h h') (n : a ≠ b) : It2 t h' a l k := by
  cases t
  · exact Heap.IsListIter.extBut x e n
  · exact Heap.IsTupleIter.extBut x e n
theorem Sq2.ext {t : Bool} {h h' : Heap} {a b : Addr} {xs : Array Value} (x : Sq2 t h a xs) (e : Heap.ExtBut b h h') (n : a ≠ b) : Sq2 t h' a xs := by
  cases t
  · exact Heap.IsList.extBut x e n
  · exact Heap.IsTuple.extBut x e n
theorem It2.obj {t : Bool} {h : Heap} {a l : Addr} {k : Nat} (x : It2 t h a l k) : ∃ o, h.get? a = some o ∧ ∀ v, o.data ≠ .cell v := by
  cases t
  · obtain ⟨o, e, _, d⟩ := x
    exact ⟨o, e, fun v q => by rw [d] at q; cases q⟩
  · obtain ⟨o, e, _, d⟩ := x
    exact ⟨o, e, fun v q => by rw [d] at q; cases q⟩
section
variable {prog : Program} {w : World} {A : Around} {E : Value → Shared → Prop} {s : Shared}
end
def zN (t : Bool) : String := if t then "tuple_iterator" else "list_iterator"
theorem Sq2.push {t : Bool} {h : Heap} {a : Addr} {xs : Array Value} (x : Sq2 t h a xs) (o : Obj) : Sq2 t (h.push o) a xs := by
  cases t
  · exact Heap.IsList.push x o
  · exact Heap.IsTuple.push x o
section
variable {prog : Program} {w : World} {A : Around} {E : Value → Shared → Prop} {s : Shared}
theorem It2.new {t : Bool} {h : Heap} {i a : Addr} (e : h.get? i = some { cls := .type (zN t), data := .fields #[.ref a, .int 0 0] }) : It2 t h i a 0 := by
  cases t
  · exact ⟨_, e, rfl, rfl⟩
  · exact ⟨_, e, rfl, rfl⟩
end
/-! over the layer -/
end GZ
namespace G
open PySem PySem.Spec PyProof.Rows L2 GZ
variable [Tb]
section
variable {C : Cfg} {W : WX} {M H M1 H1 : Hp} {σ σ' : L2.St} {nv nv1 : Nv} {Φ : Fn} {shs : Nat → Nat → Shape} {K : PySem.W.Frag}
end
end G
namespace G
open PySem L2
def Wp {α : Type} (r : Rs α) (Q : α → Nv → Prop) : Prop := ∃ a nv, r = .ok a nv ∧ Q a nv
section
variable {α β : Type} {Q : α → Nv → Prop}
theorem Wp.imp {r : Rs α} {Q' : α → Nv → Prop} (h : Wp r Q) (k : ∀ a nv, Q a nv → Q' a nv) : Wp r Q' := by
  obtain ⟨a, nv, e, h⟩ := h
  exact ⟨a, nv, e, k a nv h⟩
end
section
variable {Φ : Fn} {shs : Nat → Nat → Shape} {Q : Fl → Nv → Prop} {nv : Nv}
end
theorem bind_ok {α β : Type} {a : α} {nv : Nv} {f : α → Nv → Rs β} : (Rs.ok a nv).bind f = f a nv := rfl
end G
namespace G
open PySem PySem.Spec PyProof.Rows L2
variable [Tb]
section
variable {C : Cfg} {W : WX} {M H M1 H1 : Hp} {σ σ' : L2.St} {nv nv1 : Nv} {Φ : Fn} {shs : Nat → Nat → Shape} {K : PySem.W.Frag} {x : Expr} {a : E} {pos : Pos}
end
theorem cut_hi (xs : List D) (s : Nat) : cutD xs none (some (s : Int)) = xs.take s := by
  unfold cutD
  rw [HT.sIx_none, HT.sIx_nat]
  simp [List.take_eq_take_iff]
theorem cut_lo (xs : List D) (s : Nat) : cutD xs (some (s : Int)) none = xs.drop s := by
  unfold cutD
  rw [HT.sIx_none, HT.sIx_nat]
  by_cases h : s ≤ xs.length
  · rw [Nat.min_eq_left h, ← List.length_drop, List.take_length]
  · rw [Nat.min_eq_right (by omega)]
    simp
    omega
section
variable {C : Cfg} {W : WX} {M H M1 H1 : Hp} {σ σ' : L2.St} {nv nv1 : Nv} {Φ : Fn} {shs : Nat → Nat → Shape}
theorem StR.drops (st : StR C.K M H σ nv) : ∀ is : List Nat, StR C.K M H σ (wipeN nv is)
  | [] => st
  | i :: is => StR.drop (StR.drops st is) i
theorem own_wipe {a : Addr} {is : List Nat} (h : Own σ (wipeN nv is) a) : Own σ nv a := by
  rcases h with ⟨i, f, ds, h1, h2⟩ | h
  case inr => exact .inr h
  exact .inl ⟨i, f, ds, (wipeN_some h1).1, h2⟩
theorem sndB_kill {xs : List Stmt} {ss : List S} {is : List Nat} (h : SndB C W xs (evB Φ shs ss)) : SndB C W xs (evB Φ shs (.kill is :: ss)) := by
  intro M H σ nv D st hd
  rw [evB, evS] at hd
  exact h M H σ (wipeN nv is) D (StR.drops st is) (DoneS.later hd ((Step.refl _ _ _).less fun a z => own_wipe z) (Pk.refl C σ))
end
end G
namespace G
/-- laws without lambdas -/
instance (priority := 10) tbNone : Tb := ⟨[], fun _ => none⟩
noncomputable section
open PySem L2
/-! ### the plain reading of the reckoning: no slots -/
inductive Z (α : Type) where
  | ok (a : α) | exc (c : Nat) (as : List D) | no
  deriving Inhabited
def Z.bind {α β : Type} : Z α → (α → Z β) → Z β
  | .ok a, f => f a
  | .exc c as, _ => .exc c as
  | .no, _ => .no
def Z.of {α : Type} : Option α → Z α
  | some a => .ok a
  | none => .no
def Z.nox {α : Type} : Z α → Z α
  | .ok a => .ok a
  | _ => .no
def zval : Option R → Z D
  | some (.val d) => .ok d
  | _ => .no
def zown : Option R → Z (List D)
  | some (.own ds) => .ok ds
  | _ => .no
def z1 (p : P1) (d : D) : Z D := zval (p1 p d)
def z1o (p : P1) (d : D) : Z (List D) := zown (p1 p d)
def z2 (p : P2) (d e : D) : Z D := zval (p2 p d e)
def z2o (p : P2) (d e : D) : Z (List D) := zown (p2 p d e)
def zslc (d : D) (l h : Option Int) : Z D := zval (pSlc d l h)
def zslco (d : D) (l h : Option Int) : Z (List D) := zown (pSlc d l h)
def zite {α : Type} : D → Z α → Z α → Z α
  | .bl true, a, _ => a
  | .bl false, _, b => b
  | _, _, _ => .no
def zand (x : D) (m : Z D) : Z D := zite x m (.ok (.bl false))
def zor (x : D) (m : Z D) : Z D := zite x (.ok (.bl true)) m
def znot : D → Z D
  | .bl b => .ok (.bl !b)
  | _ => .no
def zun2 : D → Z (D × D)
  | .tup [x, y] => .ok (x, y)
  | _ => .no
def zun3 : D → Z (D × D × D)
  | .tup [x, y, z] => .ok (x, y, z)
  | _ => .no
def zun4 : D → Z (D × D × D × D)
  | .tup [x, y, z, u] => .ok (x, y, z, u)
  | _ => .no
def itD (k : Ik) (ds : List D) : Z (List D) := Z.of (items k (ds.map .inl))
def zapp (xs : List D) (y : D) : Z (List D) := if xs.length < SZ then .ok (xs ++ [y]) else .no
def zst (xs : List D) (k d : D) : Z (List D) := match k with
  | .int k => match ixN xs.length k with
    | some j => .ok (xs.set j d)
    | none => .no
  | _ => .no
def foldZ {σ : Type} (f : D → σ → Z σ) : List D → σ → Z σ
  | [], s => .ok s
  | d :: ds, s => (f d s).bind fun s => foldZ f ds s
inductive Fz (σ ρ : Type) where
  | nx (s : σ) | brk (s : σ) | ret (c : ρ)
def forZ {σ ρ : Type} (f : D → σ → Z (Fz σ ρ)) : List D → σ → Z (Fz σ ρ)
  | [], s => .ok (.nx s)
  | d :: ds, s => (f d s).bind fun r => match r with
    | .nx s => forZ f ds s
    | .brk s => .ok (.nx s)
    | .ret c => .ok (.ret c)
def zfl {σ ρ α : Type} : Fz σ ρ → (σ → Z α) → (ρ → Z α) → Z α
  | .nx s, f, _ => f s
  | .brk s, f, _ => f s
  | .ret c, _, g => g c
def mapZ' (f : D → Z D) : List D → Z (List D)
  | [] => .ok []
  | d :: ds => (f d).bind fun y => (mapZ' f ds).bind fun ys => .ok (y :: ys)
def mapZ (f : D → Z D) (xs : List D) : Z (List D) := if xs.length ≤ SZ then (mapZ' f xs).nox else .no
def compZ' (f : D → Z (Option D)) : List D → Z (List D)
  | [] => .ok []
  | d :: ds => (f d).bind fun y => (compZ' f ds).bind fun ys => .ok (match y with | some y => y :: ys | none => ys)
def compZ (f : D → Z (Option D)) (xs : List D) : Z (List D) := if xs.length ≤ SZ then (compZ' f xs).nox else .no
def mapS' {σ : Type} (f : D → σ → Z (D × σ)) : List D → σ → Z (List D × σ)
  | [], s => .ok ([], s)
  | d :: ds, s => (f d s).bind fun y => (mapS' f ds y.2).bind fun ys => .ok (y.1 :: ys.1, ys.2)
def mapS {σ : Type} (f : D → σ → Z (D × σ)) (xs : List D) (s : σ) : Z (List D × σ) := if xs.length ≤ SZ then (mapS' f xs s).nox else .no
def compS' {σ : Type} (f : D → σ → Z (Option D × σ)) : List D → σ → Z (List D × σ)
  | [], s => .ok ([], s)
  | d :: ds, s => (f d s).bind fun y => (compS' f ds y.2).bind fun ys => .ok ((match y.1 with | some y => y :: ys.1 | none => ys.1), ys.2)
def compS {σ : Type} (f : D → σ → Z (Option D × σ)) (xs : List D) (s : σ) : Z (List D × σ) := if xs.length ≤ SZ then (compS' f xs s).nox else .no
/-! ### the link -/
structure L {α γ : Type} (X : Nv → Prop) (m : Z γ) (r : Rs α) (Q : γ → Rs α → Prop) : Prop where
  un : match m with
  | .ok c => Q c r
  | .exc c as => ∃ e, X e ∧ r = .exc c as e
  | .no => True
theorem rbind_assoc {α β γ : Type} {r : Rs α} {f : α → Nv → Rs β} {g : β → Nv → Rs γ} : (r.bind f).bind g = r.bind fun a nv => (f a nv).bind g := by cases r <;> rfl
theorem rbind_id {α : Type} {r : Rs α} : r.bind Rs.ok = r := by cases r <;> rfl
section
variable {α γ δ τ : Type} {X : Nv → Prop} {m m1 m2 : Z γ} {Q : γ → Rs α → Prop} {Φ : Fn} {shs : Nat → Nat → Shape} {nv nv1 : Nv}
theorem l_no {r : Rs α} : L X .no r Q := ⟨trivial⟩
theorem L.imp {r : Rs α} {Q' : γ → Rs α → Prop} (h : L X m r Q) (k : ∀ c, Q c r → Q' c r) : L X m r Q' := by
  cases m with
  | ok c => exact ⟨k c h.un⟩
  | exc c as => exact ⟨h.un⟩
  | no => exact l_no
/-- first a part of the reading -/
theorem l_bind {n : Z δ} {m' : δ → Z γ} {r0 : Rs τ} {k : τ → Nv → Rs α} {Q' : δ → Rs τ → Prop} (h : L X n r0 Q') (hk : ∀ c, Q' c r0 → L X (m' c) (r0.bind k) Q) : L X (n.bind m') (r0.bind k) Q := by
  cases n with
  | ok c => exact hk c h.un
  | exc c as => obtain ⟨e, x, q⟩ := h.un; exact ⟨⟨e, x, by rw [q]; rfl⟩⟩
  | no => exact l_no
section
variable {k : R → Nv → Rs α}
theorem e_end {e : E} {Q : γ → Rs R → Prop} (h : L X m ((evE Φ shs e nv).bind Rs.ok) Q) : L X m (evE Φ shs e nv) Q := by rwa [rbind_id] at h
theorem x_non (h : L X m (k (.val .non) nv) Q) : L X m ((evE Φ shs .non nv).bind k) Q := by rw [evE]; exact h
theorem x_bl {b : Bool} (h : L X m (k (.val (.bl b)) nv) Q) : L X m ((evE Φ shs (.bl b) nv).bind k) Q := by rw [evE]; exact h
theorem x_int {i : Int} (h : L X m (k (.val (.int i)) nv) Q) : L X m ((evE Φ shs (.int i) nv).bind k) Q := by rw [evE]; exact h
theorem x_str {s : Str} (h : L X m (k (.val (.str s)) nv) Q) : L X m ((evE Φ shs (.str s) nv).bind k) Q := by rw [evE]; exact h
theorem x_var {i : Nat} {d : D} (e : nv[i]? = some (some (.val d))) (h : L X m (k (.val d) nv) Q) : L X m ((evE Φ shs (.var i) nv).bind k) Q := by
  rw [evE, rdVar, e]; exact h
theorem x_varF {i : Nat} {ds : List D} (e : nv[i]? = some (some (.lv (.l true) ds))) (e1 : nv.set i (some (.val (.lst ds))) = nv1) (h : L X m (k (.val (.lst ds)) nv1) Q) : L X m ((evE Φ shs (.var i) nv).bind k) Q := by
  subst e1
  rw [evE, rdVar, e]; exact h
theorem x_mov {i : Nat} {d : D} (e : nv[i]? = some (some (.val d))) (h : L X m (k (.val d) nv) Q) : L X m ((evE Φ shs (.mov i) nv).bind k) Q := by
  rw [evE, mvVar, e]; exact h
theorem x_op1 {p : P1} {a : E} (h : L X m ((opd a nv (evE Φ shs a nv)).bind fun x nv1 => (Rs.of ((look nv1 x).bind (p1 p)) nv1).bind k) Q) : L X m ((evE Φ shs (.op1 p a) nv).bind k) Q := by
  rw [evE, rbind_assoc]; exact h
theorem x_op2 {p : P2} {a b : E} (h : L X m ((opd a nv (evE Φ shs a nv)).bind fun x nv1 => (opd b nv1 (evE Φ shs b nv1)).bind fun y nv2 => (Rs.of ((look nv2 x).bind fun d => (look nv2 y).bind fun e => p2 p d e) nv2).bind k) Q) : L X m ((evE Φ shs (.op2 p a b) nv).bind k) Q := by
  rw [evE, rbind_assoc]
  simpa only [rbind_assoc] using h
def kMop (Φ : Fn) (shs : Nat → Nat → Shape) (p : Pm) (b : E) (k : R → Nv → Rs α) (x : D ⊕ Nat) (nv1 : Nv) : Rs α := (match look nv1 x with
    | none => .stuck
    | some d0 => if recv p d0 = true then (opd b nv1 (evE Φ shs b nv1)).bind fun y nv2 =>
        Rs.of ((look nv2 x).bind fun d => (look nv2 y).bind fun e => pm p d e) nv2
      else .stuck : Rs R).bind k
theorem x_mop {p : Pm} {a b : E} (h : L X m ((opd a nv (evE Φ shs a nv)).bind (kMop Φ shs p b k)) Q) : L X m ((evE Φ shs (.mop p a b) nv).bind k) Q := by
  rw [evE, rbind_assoc]; exact h
/-- a receiver of the right kind -/
def zrec (p : Pm) (d : D) (m : Z γ) : Z γ := if recv p d = true then m else .no
theorem z_rec {p : Pm} {b : E} {x : D ⊕ Nat} {d : D} (e : look nv x = some d) (h : L X m ((opd b nv (evE Φ shs b nv)).bind fun y nv2 => (Rs.of ((look nv2 x).bind fun d => (look nv2 y).bind fun e => pm p d e) nv2).bind k) Q) : L X (zrec p d m) (kMop Φ shs p b k x nv) Q := by
  unfold zrec kMop
  rw [e]
  dsimp only
  split
  · rw [rbind_assoc]; exact h
  · exact l_no
theorem z_mop {p : Pm} {x y : D ⊕ Nat} {d e : D} {m' : D → Z γ} (h1 : look nv x = some d) (h2 : look nv y = some e) (hk : ∀ r, L X (m' r) (k (.val r) nv) Q) : L X ((zval (pm p d e)).bind m') ((Rs.of ((look nv x).bind fun d => (look nv y).bind fun e => pm p d e) nv).bind k) Q := by
  rw [h1, h2]
  simp only [Option.bind_some]
  cases pm p d e with
  | none => exact l_no
  | some r => cases r with
    | val r => exact hk r
    | own ds => exact l_no
theorem z_op1 {p : P1} {x : D ⊕ Nat} {d : D} {m' : D → Z γ} (h1 : look nv x = some d) (hk : ∀ r, L X (m' r) (k (.val r) nv) Q) : L X ((z1 p d).bind m') ((Rs.of ((look nv x).bind (p1 p)) nv).bind k) Q := by
  rw [h1]
  simp only [Option.bind_some]
  unfold z1
  cases p1 p d with
  | none => exact l_no
  | some r => cases r with
    | val r => exact hk r
    | own ds => exact l_no
theorem z_op1o {p : P1} {x : D ⊕ Nat} {d : D} {m' : List D → Z γ} (h1 : look nv x = some d) (hk : ∀ r, L X (m' r) (k (.own r) nv) Q) : L X ((z1o p d).bind m') ((Rs.of ((look nv x).bind (p1 p)) nv).bind k) Q := by
  rw [h1]
  simp only [Option.bind_some]
  unfold z1o
  cases p1 p d with
  | none => exact l_no
  | some r => cases r with
    | val r => exact l_no
    | own ds => exact hk ds
theorem z_op2 {p : P2} {x y : D ⊕ Nat} {d e : D} {m' : D → Z γ} (h1 : look nv x = some d) (h2 : look nv y = some e) (hk : ∀ r, L X (m' r) (k (.val r) nv) Q) : L X ((z2 p d e).bind m') ((Rs.of ((look nv x).bind fun d => (look nv y).bind fun e => p2 p d e) nv).bind k) Q := by
  rw [h1, h2]
  simp only [Option.bind_some]
  unfold z2
  cases p2 p d e with
  | none => exact l_no
  | some r => cases r with
    | val r => exact hk r
    | own ds => exact l_no
theorem z_op2o {p : P2} {x y : D ⊕ Nat} {d e : D} {m' : List D → Z γ} (h1 : look nv x = some d) (h2 : look nv y = some e) (hk : ∀ r, L X (m' r) (k (.own r) nv) Q) : L X ((z2o p d e).bind m') ((Rs.of ((look nv x).bind fun d => (look nv y).bind fun e => p2 p d e) nv).bind k) Q := by
  rw [h1, h2]
  simp only [Option.bind_some]
  unfold z2o
  cases p2 p d e with
  | none => exact l_no
  | some r => cases r with
    | val r => exact l_no
    | own ds => exact hk ds
theorem o_var {i : Nat} {s : Sl} {ra : Rs R} {k : D ⊕ Nat → Nv → Rs α} (e : nv[i]? = some (some s)) (h : L X m (k (.inr i) nv) Q) : L X m ((opd (.var i) nv ra).bind k) Q := by
  have : opd (.var i) nv ra = .ok (.inr i) nv := by
    unfold opd
    dsimp only
    rw [e]
  rw [this]; exact h
theorem o_exp {a : E} {k : D ⊕ Nat → Nv → Rs α} (e : isVar a = false) (h : L X m ((evE Φ shs a nv).bind fun r nv1 => k (.inl r.frz) nv1) Q) : L X m ((opd a nv (evE Φ shs a nv)).bind k) Q := by
  have : ∀ ra, opd a nv ra = ra.bind fun r nv1 => .ok (.inl r.frz) nv1 := fun ra => by cases a <;> first | rfl | (cases e)
  rw [this, rbind_assoc]; exact h
def kNot (k : R → Nv → Rs α) (r : R) (nv1 : Nv) : Rs α := (match r with
    | .val (.bl k) => .ok (.val (.bl (!k))) nv1
    | _ => .stuck : Rs R).bind k
theorem x_not {a : E} (h : L X m ((evE Φ shs a nv).bind (kNot k)) Q) : L X m ((evE Φ shs (.not_ a) nv).bind k) Q := by
  rw [evE, rbind_assoc]; exact h
theorem z_not {d : D} {m' : D → Z γ} (hk : ∀ r, L X (m' r) (k (.val r) nv) Q) : L X ((znot d).bind m') (kNot k (.val d) nv) Q := by
  cases d <;> first | exact l_no | exact hk _
def kAnd (Φ : Fn) (shs : Nat → Nat → Shape) (b : E) (k : R → Nv → Rs α) (r : R) (nv1 : Nv) : Rs α := (match r with
    | .val (.bl true) => evE Φ shs b nv1
    | .val (.bl false) => Rs.ok (.val (.bl false)) nv1
    | _ => .stuck : Rs R).bind k
def kOr (Φ : Fn) (shs : Nat → Nat → Shape) (b : E) (k : R → Nv → Rs α) (r : R) (nv1 : Nv) : Rs α := (match r with
    | .val (.bl true) => Rs.ok (.val (.bl true)) nv1
    | .val (.bl false) => evE Φ shs b nv1
    | _ => .stuck : Rs R).bind k
def kIte (Φ : Fn) (shs : Nat → Nat → Shape) (a b : E) (k : R → Nv → Rs α) (r : R) (nv1 : Nv) : Rs α := (match r with
    | .val (.bl true) => evE Φ shs a nv1
    | .val (.bl false) => evE Φ shs b nv1
    | _ => .stuck : Rs R).bind k
theorem x_and {a b : E} (h : L X m ((evE Φ shs a nv).bind (kAnd Φ shs b k)) Q) : L X m ((evE Φ shs (.and_ a b) nv).bind k) Q := by
  rw [evE, rbind_assoc]; exact h
theorem x_or {a b : E} (h : L X m ((evE Φ shs a nv).bind (kOr Φ shs b k)) Q) : L X m ((evE Φ shs (.or_ a b) nv).bind k) Q := by
  rw [evE, rbind_assoc]; exact h
theorem x_ife {c a b : E} (h : L X m ((evE Φ shs c nv).bind (kIte Φ shs a b k)) Q) : L X m ((evE Φ shs (.ife c a b) nv).bind k) Q := by
  rw [evE, rbind_assoc]; exact h
/-- what an expression comes to: a reading s, told by h, the slots by g -/
def QE {τ : Type} (h : τ → R) (g : τ → Nv) (s : τ) (r : Rs R) : Prop := r = .ok (h s) (g s)
theorem qe_ok {τ : Type} {h : τ → R} {g : τ → Nv} {s : τ} {r : R} (e1 : h s = r) (e2 : g s = nv) : L X (.ok s) (Rs.ok r nv) (QE h g) := by
  subst e1; subst e2; exact ⟨rfl⟩
theorem z_and {b : E} {d : D} {mb : Z D} {m' : D → Z γ} (hb : L X mb (evE Φ shs b nv) (QE .val fun _ => nv)) (hk : ∀ r, L X (m' r) (k (.val r) nv) Q) : L X ((zand d mb).bind m') (kAnd Φ shs b k (.val d) nv) Q := by
  cases d with
  | bl v =>
    cases v with
    | true => exact l_bind hb fun c q => by rw [q]; exact hk c
    | false => exact hk _
  | _ => exact l_no
theorem z_or {b : E} {d : D} {mb : Z D} {m' : D → Z γ} (hb : L X mb (evE Φ shs b nv) (QE .val fun _ => nv)) (hk : ∀ r, L X (m' r) (k (.val r) nv) Q) : L X ((zor d mb).bind m') (kOr Φ shs b k (.val d) nv) Q := by
  cases d with
  | bl v =>
    cases v with
    | false => exact l_bind hb fun c q => by rw [q]; exact hk c
    | true => exact hk _
  | _ => exact l_no
theorem z_iteE {a b : E} {d : D} {τ : Type} {ma mb : Z τ} {h : τ → R} {g : τ → Nv} {m' : τ → Z γ} (ha : L X ma (evE Φ shs a nv) (QE h g)) (hb : L X mb (evE Φ shs b nv) (QE h g)) (hk : ∀ s, L X (m' s) (k (h s) (g s)) Q) : L X ((zite d ma mb).bind m') (kIte Φ shs a b k (.val d) nv) Q := by
  cases d with
  | bl v =>
    cases v with
    | true => exact l_bind ha fun c q => by rw [q]; exact hk c
    | false => exact l_bind hb fun c q => by rw [q]; exact hk c
  | _ => exact l_no
def zpart {γ : Type} (d : D) (f : Int → Z γ) : Z γ := match d with
  | .int i => f i
  | _ => .no
/-! arguments, displays -/
theorem g_nil {k : List (D ⊕ Nat) → Nv → Rs α} (h : L X m (k [] nv) Q) : L X m ((evOs Φ shs [] nv).bind k) Q := by rw [evOs]; exact h
theorem g_brw {i : Nat} {s : Sl} {es : List E} {k : List (D ⊕ Nat) → Nv → Rs α} (e : nv[i]? = some (some s)) (h : L X m ((evOs Φ shs es nv).bind fun os nv1 => k (.inr i :: os) nv1) Q) : L X m ((evOs Φ shs (.brw i :: es) nv).bind k) Q := by
  rw [evOs, argStep, e]
  dsimp only
  rw [rbind_assoc]; exact h
theorem g_cons {e : E} {es : List E} {k : List (D ⊕ Nat) → Nv → Rs α} (nb : isBrw e = false) (h : L X m ((evE Φ shs e nv).bind fun r nv1 => (evOs Φ shs es nv1).bind fun os nv2 => k (.inl r.frz :: os) nv2) Q) : L X m ((evOs Φ shs (e :: es) nv).bind k) Q := by
  rw [evOs]
  have : ∀ re rest, argStep e nv re rest = re.bind fun r nv1 => (rest nv1).bind fun os nv2 => .ok (.inl r.frz :: os) nv2 := fun re rest => by cases e <;> first | rfl | (cases nb)
  rw [this]
  simp only [rbind_assoc, bind_ok]
  exact h
theorem x_tup {es : List E} (h : L X m ((evOs Φ shs es nv).bind fun os nv1 => (Rs.of ((inls os).bind fun ds => if ds.length ≤ SZ then some (R.val (.tup ds)) else none) nv1).bind k) Q) : L X m ((evE Φ shs (.tup es) nv).bind k) Q := by
  rw [evE, rbind_assoc]; exact h
theorem z_tup {os : List (D ⊕ Nat)} {ds : List D} (e : inls os = some ds) (hl : decide (ds.length ≤ SZ) = true) (h : L X m (k (.val (.tup ds)) nv) Q) : L X m ((Rs.of ((inls os).bind fun ds => if ds.length ≤ SZ then some (R.val (.tup ds)) else none) nv).bind k) Q := by
  rw [e]
  simp only [Option.bind_some]
  rw [if_pos (of_decide_eq_true hl)]; exact h
theorem x_lst {es : List E} (h : L X m ((evOs Φ shs es nv).bind fun os nv1 => (Rs.of ((inls os).bind fun ds => if ds.length ≤ SZ then some (R.own ds) else none) nv1).bind k) Q) : L X m ((evE Φ shs (.lst es) nv).bind k) Q := by
  rw [evE, rbind_assoc]; exact h
theorem z_lst {os : List (D ⊕ Nat)} {ds : List D} (e : inls os = some ds) (hl : decide (ds.length ≤ SZ) = true) (h : L X m (k (.own ds) nv) Q) : L X m ((Rs.of ((inls os).bind fun ds => if ds.length ≤ SZ then some (R.own ds) else none) nv).bind k) Q := by
  rw [e]
  simp only [Option.bind_some]
  rw [if_pos (of_decide_eq_true hl)]; exact h
/-! calls -/
structure FqP {ρ : Type} (m : Z ρ) (r : Cr) (h : ρ → R) (ss : List Sl) : Prop where
  un : match m with
  | .ok c => r = .ok (h c) ss
  | .exc c as => r = .exc c as ss
  | .no => True
structure FqL {ρ : Type} (m : Z ρ) (r : Cr) (h : ρ → R) (o : ρ → List Sl) : Prop where
  un : match m with
  | .ok c => r = .ok (h c) (o c)
  | _ => True
theorem x_call {f sh : Nat} {es : List E} (h : L X m ((evOs Φ shs es nv).bind fun os nv1 => (callOn Φ f (shs f sh) os nv1).bind k) Q) : L X m ((evE Φ shs (.call f sh es) nv).bind k) Q := by
  rw [evE, rbind_assoc]; exact h
theorem put_inl {ds : List D} : ∀ {outs : List Sl}, outs.length = ds.length → putBack nv (ds.map .inl) outs = some nv := by
  induction ds with
  | nil => intro outs _; cases outs <;> rfl
  | cons d ds ih =>
    intro outs h
    cases outs with
    | nil => cases h
    | cons s outs =>
      simp only [List.map_cons, putBack]
      exact ih (by simpa using h)
theorem slots_inl : ∀ {ds : List D}, slotsOf nv (ds.map .inl) = some (ds.map .val)
  | [] => rfl
  | d :: ds => by simp only [List.map_cons, slotsOf, slots_inl]; rfl
theorem brws_inl : ∀ {ds : List D}, brws (ds.map .inl) = []
  | [] => rfl
  | d :: ds => by simp only [List.map_cons, brws, brws_inl]
/-- a call with data alone -/
theorem z_callP {ρ : Type} {n : Z ρ} {m' : ρ → Z γ} {f : Nat} {sh : Shape} {os : List (D ⊕ Nat)} {ds : List D} {h : ρ → R} (hq : FqP n (Φ f (ds.map .val)) h (ds.map .val)) (e1 : arrO sh os = some (ds.map .inl)) (hx : X nv) (hk : ∀ c, L X (m' c) (k (h c) nv) Q) : L X (n.bind m') ((callOn Φ f sh os nv).bind k) Q := by
  unfold callOn
  rw [e1]
  dsimp only
  rw [slots_inl]
  dsimp only
  rw [if_pos (by rw [brws_inl]; exact List.nodup_nil)]
  cases n with
  | ok c =>
    have hq : Φ f (ds.map .val) = .ok (h c) (ds.map .val) := hq.un
    rw [hq]
    dsimp only
    rw [put_inl (by simp)]
    exact hk c
  | exc c as =>
    have hq : Φ f (ds.map .val) = .exc c as (ds.map .val) := hq.un
    rw [hq]
    dsimp only
    rw [put_inl (by simp)]
    exact ⟨⟨nv, hx, rfl⟩⟩
  | no => exact l_no
/-- a call that is lent lists -/
theorem z_callL {ρ : Type} {n : Z ρ} {m' : ρ → Z γ} {f : Nat} {sh : Shape} {os os' : List (D ⊕ Nat)} {ss : List Sl} {h : ρ → R} {o : ρ → List Sl} {g : ρ → Nv} (hq : FqL n (Φ f ss) h o) (e1 : arrO sh os = some os') (e2 : slotsOf nv os' = some ss) (e3 : decide (brws os').Nodup = true) (e4 : ∀ c, putBack nv os' (o c) = some (g c)) (hk : ∀ c, L X (m' c) (k (h c) (g c)) Q) : L X (n.nox.bind m') ((callOn Φ f sh os nv).bind k) Q := by
  unfold callOn
  rw [e1]
  dsimp only
  rw [e2]
  dsimp only
  rw [if_pos (of_decide_eq_true e3)]
  cases n with
  | ok c =>
    have hq : Φ f ss = .ok (h c) (o c) := hq.un
    rw [hq]
    dsimp only
    rw [e4 c]
    exact hk c
  | exc c as => exact l_no
  | no => exact l_no
/-! methods that change a list -/
def mthEnd (m : Mt) (i : Nat) (os : List (D ⊕ Nat)) (nv1 : Nv) : Rs R := match inls os, nv1[i]? with
  | some ds, some (some (.lv (.l f) xs)) => match mthD m xs ds with
    | some (y, ys) => .ok (.val y) (nv1.set i (some (.lv (.l f) ys)))
    | none => .stuck
  | _, _ => .stuck
theorem x_mth {me : Mt} {i : Nat} {es : List E} {f : Bool} {xs : List D} (e : nv[i]? = some (some (.lv (.l f) xs))) (h : L X m ((evOs Φ shs es nv).bind fun os nv1 => (mthEnd me i os nv1).bind k) Q) : L X m ((evE Φ shs (.mth me i es) nv).bind k) Q := by
  rw [evE, mthOn, e]
  dsimp only
  rw [rbind_assoc]; exact h
theorem z_app {i : Nat} {y : D} {f : Bool} {xs : List D} {g : List D → Nv} {m' : List D → Z γ} (e : nv[i]? = some (some (.lv (.l f) xs))) (e1 : ∀ ys, nv.set i (some (.lv (.l f) ys)) = g ys) (hk : ∀ ys, L X (m' ys) (k (.val .non) (g ys)) Q) : L X ((zapp xs y).bind m') ((mthEnd .app i [.inl y] nv).bind k) Q := by
  unfold mthEnd zapp
  rw [e]
  simp only [inls, Option.map_some, mthD]
  split
  · have := hk (xs ++ [y])
    rw [← e1] at this
    exact this
  · exact l_no
end
end
end
end G
namespace G
noncomputable section
open PySem L2
section
variable {α γ δ τ σ ρ : Type} {X : Nv → Prop} {m m1 m2 : Z γ} {Q : γ → Rs Fl → Prop} {Φ : Fn} {shs : Nat → Nat → Shape} {nv nv1 : Nv} {ss : List S}
theorem evB_append : ∀ (a b : List S) (nv : Nv), evB Φ shs (a ++ b) nv = (evB Φ shs a nv).bind fun f nv1 => match f with
    | .nx => evB Φ shs b nv1
    | f => .ok f nv1
  | [], b, nv => by rw [evB]; rfl
  | s :: a, b, nv => by
    rw [List.cons_append, evB, evB, rbind_assoc]
    congr 1
    funext f nv1
    cases f with
    | nx => exact evB_append a b nv1
    | _ => rfl
theorem b_nil (h : L X m (.ok .nx nv) Q) : L X m (evB Φ shs [] nv) Q := by rw [evB]; exact h
theorem b_asg {t : T} {e : E} (h : L X m ((evE Φ shs e nv).bind fun r nv1 => (asgR t r nv1).bind fun _ nv2 => evB Φ shs ss nv2) Q) : L X m (evB Φ shs (.asg t e :: ss) nv) Q := by
  rw [evB, evS]
  simp only [rbind_assoc, bind_ok]
  exact h
theorem b_expr {e : E} (h : L X m ((evE Φ shs e nv).bind fun _ nv1 => evB Φ shs ss nv1) Q) : L X m (evB Φ shs (.expr e :: ss) nv) Q := by
  rw [evB, evS]
  simp only [rbind_assoc, bind_ok]
  exact h
theorem b_ret {e : E} (h : L X m ((evE Φ shs e nv).bind fun r nv1 => .ok (.ret r) nv1) Q) : L X m (evB Φ shs (.ret e :: ss) nv) Q := by
  rw [evB, evS]
  simp only [rbind_assoc, bind_ok]
  exact h
theorem b_kill {is : List Nat} (e : wipeN nv is = nv1) (h : L X m (evB Φ shs ss nv1) Q) : L X m (evB Φ shs (.kill is :: ss) nv) Q := by
  subst e
  rw [evB, evS]; exact h
theorem s_asg {t : T} {r : R} {k : Unit → Nv → Rs Fl} (e : asgR t r nv = .ok () nv1) (h : L X m (k () nv1) Q) : L X m ((asgR t r nv).bind k) Q := by
  rw [e]; exact h
end
section
variable {α γ δ τ σ ρ : Type} {X : Nv → Prop} {m m1 m2 : Z γ} {Q : γ → Rs α → Prop} {Φ : Fn} {shs : Nat → Nat → Shape} {nv nv1 : Nv} {ss : List S}
theorem a_nm {i : Nat} {d : D} {k : Unit → Nv → Rs α} (e : stSlot i (.val d) nv = .ok () nv1) (h : L X m (k () nv1) Q) : L X m ((asgD (.nm i) d nv).bind k) Q := by
  rw [asgD, e]; exact h
theorem a_ns {i : Nat} {is : List Nat} {d : D} {ds : List D} {k : Unit → Nv → Rs α} (e : stSlot i (.val d) nv = .ok () nv1) (h : L X m ((asgNs is ds nv1).bind k) Q) : L X m ((asgNs (i :: is) (d :: ds) nv).bind k) Q := by
  rw [asgNs, e]; exact h
theorem a_n0 {k : Unit → Nv → Rs α} (h : L X m (k () nv) Q) : L X m ((asgNs [] [] nv).bind k) Q := h
theorem a_un4 {is : List Nat} {d : D} {k : Unit → Nv → Rs α} {m' : D × D × D × D → Z γ} (h : ∀ p : D × D × D × D, L X (m' p) ((asgNs is [p.1, p.2.1, p.2.2.1, p.2.2.2] nv).bind k) Q) : L X ((zun4 d).bind m') ((asgD (.nms is) d nv).bind k) Q := by
  cases d with
  | tup ds => rcases ds with _ | ⟨a, _ | ⟨b, _ | ⟨c, _ | ⟨d, _ | ⟨e, r⟩⟩⟩⟩⟩ <;> first | exact l_no | exact h (a, b, c, d)
  | _ => exact l_no
/-- an assignment to several names -/
theorem a_multi {t : T} {r : R} {k : Unit → Nv → Rs α} (tn : (match t with | .nm _ => false | _ => true) = true) (h : L X m ((asgD t r.frz nv).bind k) Q) : L X m ((asgR t r nv).bind k) Q := by
  have : asgR t r nv = asgD t r.frz nv := by cases t <;> first | rfl | (cases tn)
  rw [this]; exact h
end
section
variable {α γ δ τ σ ρ : Type} {X : Nv → Prop} {m m1 m2 : Z γ} {Q : γ → Rs Fl → Prop} {Φ : Fn} {shs : Nat → Nat → Shape} {nv nv1 : Nv} {ss : List S}
def kSti (Φ : Fn) (shs : Nat → Nat → Shape) (i : Nat) (ix : E) (ss : List S) (r : R) (nv1 : Nv) : Rs Fl := match nv1[i]? with
    | some (some (.lv (.l _) _)) => (evE Φ shs ix nv1).bind fun k nv2 => (stIx i k.frz r.frz nv2).bind fun _ nv3 => evB Φ shs ss nv3
    | _ => .stuck
theorem b_sti {i : Nat} {ix e : E} (h : L X m ((evE Φ shs e nv).bind (kSti Φ shs i ix ss)) Q) : L X m (evB Φ shs (.sti i ix e :: ss) nv) Q := by
  rw [evB, evS, rbind_assoc]
  refine Eq.mp (congrArg (fun z => L X m z Q) ?_) h
  congr 1
  funext r nv1
  unfold kSti
  cases nv1[i]? with
  | none => rfl
  | some o => cases o with
    | none => rfl
    | some s => cases s with
      | val d => rfl
      | fn m ds => rfl
      | lv f xs => cases f with
        | dict ks => rfl
        | l b =>
          dsimp only
          simp only [rbind_assoc, bind_ok]
theorem s_sti {i : Nat} {ix : E} {r : R} {f : Bool} {xs : List D} (q : nv[i]? = some (some (.lv (.l f) xs))) (h : L X m ((evE Φ shs ix nv).bind fun k nv2 => (stIx i k.frz r.frz nv2).bind fun _ nv3 => evB Φ shs ss nv3) Q) : L X m (kSti Φ shs i ix ss r nv) Q := by
  unfold kSti
  rw [q]; exact h
theorem z_st {i : Nat} {kd d : D} {f : Bool} {xs : List D} {g : List D → Nv} {k : Unit → Nv → Rs Fl} {m' : List D → Z γ} (q : nv[i]? = some (some (.lv (.l f) xs))) (e1 : ∀ ys, nv.set i (some (.lv (.l f) ys)) = g ys) (hk : ∀ ys, L X (m' ys) (k () (g ys)) Q) : L X ((zst xs kd d).bind m') ((stIx i kd d nv).bind k) Q := by
  unfold zst stIx
  rw [q]
  cases kd with
  | int n =>
    dsimp only
    cases ixN xs.length n with
    | none => exact l_no
    | some j =>
      have := hk (xs.set j d)
      rw [← e1] at this
      exact this
  | _ => exact l_no
/-! if -/
def kIf (Φ : Fn) (shs : Nat → Nat → Shape) (a b ss : List S) (r : R) (nv1 : Nv) : Rs Fl := match r with
  | .val (.bl true) => evB Φ shs (a ++ ss) nv1
  | .val (.bl false) => evB Φ shs (b ++ ss) nv1
  | _ => .stuck
theorem b_ife {c : E} {a b : List S} (h : L X m ((evE Φ shs c nv).bind (kIf Φ shs a b ss)) Q) : L X m (evB Φ shs (.ife c a b :: ss) nv) Q := by
  rw [evB, evS, rbind_assoc]
  refine Eq.mp (congrArg (fun z => L X m z Q) ?_) h
  congr 1
  funext r nv1
  unfold kIf
  cases r with
  | own ds => rfl
  | val d =>
    cases d with
    | bl v => cases v with
      | true => exact evB_append a ss nv1
      | false => exact evB_append b ss nv1
    | _ => rfl
theorem z_ife {a b : List S} {d : D} (ha : L X m1 (evB Φ shs (a ++ ss) nv) Q) (hb : L X m2 (evB Φ shs (b ++ ss) nv) Q) : L X (zite d m1 m2) (kIf Φ shs a b ss (.val d) nv) Q := by
  cases d with
  | bl v => cases v with
    | true => exact ha
    | false => exact hb
  | _ => exact l_no
/-- a block that runs through: a reading s, the slots by g -/
def QJ (g : τ → Nv) (s : τ) (r : Rs Fl) : Prop := r = .ok .nx (g s)
theorem qj_ok {g : τ → Nv} {s : τ} (e : g s = nv) : L X (.ok s) (Rs.ok Fl.nx nv) (QJ g) := by subst e; exact ⟨rfl⟩
theorem z_ifj {a b : List S} {d : D} {ma mb : Z τ} {g : τ → Nv} {m' : τ → Z γ} (ha : L X ma (evB Φ shs a nv) (QJ g)) (hb : L X mb (evB Φ shs b nv) (QJ g)) (hk : ∀ s, L X (m' s) (evB Φ shs ss (g s)) Q) : L X ((zite d ma mb).bind m') (kIf Φ shs a b ss (.val d) nv) Q := by
  cases d with
  | bl v => cases v with
    | true =>
      show L X (ma.bind m') (evB Φ shs (a ++ ss) nv) Q
      rw [evB_append]
      exact l_bind ha fun c q => by rw [q]; exact hk c
    | false =>
      show L X (mb.bind m') (evB Φ shs (b ++ ss) nv) Q
      rw [evB_append]
      exact l_bind hb fun c q => by rw [q]; exact hk c
  | _ => exact l_no
/-! the end of a body -/
def QF (h : ρ → R) (O : ρ → Nv → Prop) (c : ρ) (r : Rs Fl) : Prop := ∃ nv, O c nv ∧ (r = .ok (.ret (h c)) nv ∨ (r = .ok .nx nv ∧ h c = .val .non))
theorem qf_ret {h : ρ → R} {O : ρ → Nv → Prop} {c : ρ} {r : R} (e : h c = r) (o : O c nv) : L X (.ok c) (Rs.ok (.ret r) nv) (QF h O) := by
  subst e; exact ⟨⟨nv, o, .inl rfl⟩⟩
/-! loops -/
def QN (g : σ → Nv) (s : σ) (r : Rs Fl) : Prop := r = .ok .nx (g s) ∨ r = .ok .cnt (g s)
theorem qn_nx {g : σ → Nv} {s : σ} (e : g s = nv) : L X (.ok s) (Rs.ok Fl.nx nv) (QN g) := by subst e; exact ⟨.inl rfl⟩
def QL (g : σ → Nv) (h : ρ → R) (O : ρ → Nv → Prop) (c : Fz σ ρ) (r : Rs Fl) : Prop := match c with
  | .nx s => r = .ok .nx (g s) ∨ r = .ok .cnt (g s)
  | .brk s => r = .ok .brk (g s)
  | .ret c => ∃ nv, O c nv ∧ r = .ok (.ret (h c)) nv
theorem ql_nx {g : σ → Nv} {h : ρ → R} {O : ρ → Nv → Prop} {s : σ} (e : g s = nv) : L X (.ok (.nx s)) (Rs.ok Fl.nx nv) (QL g h O) := by subst e; exact ⟨.inl rfl⟩
theorem ql_ret {g : σ → Nv} {h : ρ → R} {O : ρ → Nv → Prop} {c : ρ} {r : R} (e : h c = r) (o : O c nv) : L X (.ok (.ret c)) (Rs.ok (.ret r) nv) (QL g h O) := by subst e; exact ⟨⟨nv, o, rfl⟩⟩
theorem fold_l {g : σ → Nv} {f : D → σ → Z σ} {body : D → Nv → Rs Fl} (hb : ∀ d s, L X (f d s) (body d (g s)) (QN g)) : ∀ (xs : List D) (s : σ), L X (foldZ f xs s) (forLoop body xs (g s)) (QJ g)
  | [], s => ⟨rfl⟩
  | d :: ds, s => by
    have h1 := hb d s
    simp only [foldZ, forLoop]
    refine l_bind h1 fun c q => ?_
    rcases q with q | q <;> (rw [q]; exact fold_l hb ds c)
theorem for_l {g : σ → Nv} {h : ρ → R} {O : ρ → Nv → Prop} {f : D → σ → Z (Fz σ ρ)} {body : D → Nv → Rs Fl} (hb : ∀ d s, L X (f d s) (body d (g s)) (QL g h O)) : ∀ (xs : List D) (s : σ), L X (forZ f xs s) (forLoop body xs (g s)) (fun c r => match c with
    | .nx s => r = .ok .nx (g s)
    | .brk s => False
    | .ret c => ∃ nv, O c nv ∧ r = .ok (.ret (h c)) nv)
  | [], s => ⟨rfl⟩
  | d :: ds, s => by
    have h1 := hb d s
    simp only [forZ, forLoop]
    refine l_bind h1 fun c q => ?_
    cases c with
    | nx s => rcases q with q | q <;> (rw [q]; exact for_l hb ds s)
    | brk s =>
      have q : _ = _ := q
      rw [q]
      exact ⟨(rfl : Rs.ok Fl.nx (g s) = _)⟩
    | ret c =>
      obtain ⟨nv, o, q⟩ := q
      rw [q]
      exact ⟨nv, o, rfl⟩
def kFor (Φ : Fn) (shs : Nat → Nat → Shape) (t : T) (k : Ik) (body ss : List S) (os : List (D ⊕ Nat)) (nv1 : Nv) : Rs Fl := match items k os with
    | none => .stuck
    | some xs => (forLoop (fun d nv => (asgD t d nv).bind fun _ nv2 => evB Φ shs body nv2) xs nv1).bind fun f nv1 => match f with
      | .nx => evB Φ shs ss nv1
      | f => .ok f nv1
theorem b_for {t : T} {k : Ik} {es : List E} {body : List S} (h : L X m ((evOs Φ shs es nv).bind (kFor Φ shs t k body ss)) Q) : L X m (evB Φ shs (.for_ t k es body :: ss) nv) Q := by
  rw [evB, evS, rbind_assoc]
  refine Eq.mp (congrArg (fun z => L X m z Q) ?_) h
  congr 1
  funext os nv1
  unfold kFor
  cases items k os with
  | none => rfl
  | some xs => rfl
theorem z_fold {t : T} {k : Ik} {os : List (D ⊕ Nat)} {ds : List D} {body : List S} {g : σ → Nv} {f : D → σ → Z σ} {s0 : σ} {m' : σ → Z γ} (e : os = ds.map .inl) (e0 : g s0 = nv) (hb : ∀ d s, L X (f d s) ((asgD t d (g s)).bind fun _ nv2 => evB Φ shs body nv2) (QN g)) (hk : ∀ s, L X (m' s) (evB Φ shs ss (g s)) Q) : L X ((itD k ds).bind fun xs => (foldZ f xs s0).bind m') (kFor Φ shs t k body ss os nv) Q := by
  subst e; subst e0
  unfold itD kFor
  cases items k (ds.map .inl) with
  | none => exact l_no
  | some xs =>
    show L X ((foldZ f xs s0).bind m') _ Q
    exact l_bind (fold_l hb xs s0) fun c (q : _ = _) => by rw [q]; exact hk c
theorem z_for {t : T} {k : Ik} {os : List (D ⊕ Nat)} {ds : List D} {body : List S} {g : σ → Nv} {h : ρ → R} {O : ρ → Nv → Prop} {f : D → σ → Z (Fz σ ρ)} {s0 : σ} {m1 : σ → Z γ} {m2 : ρ → Z γ} (e : os = ds.map .inl) (e0 : g s0 = nv) (hb : ∀ d s, L X (f d s) ((asgD t d (g s)).bind fun _ nv2 => evB Φ shs body nv2) (QL g h O)) (hk : ∀ s, L X (m1 s) (evB Φ shs ss (g s)) Q) (hr : ∀ c nv, O c nv → L X (m2 c) (Rs.ok (.ret (h c)) nv) Q) : L X ((itD k ds).bind fun xs => (forZ f xs s0).bind fun c => zfl c m1 m2) (kFor Φ shs t k body ss os nv) Q := by
  subst e; subst e0
  unfold itD kFor
  cases items k (ds.map .inl) with
  | none => exact l_no
  | some xs =>
    show L X ((forZ f xs s0).bind fun c => zfl c m1 m2) _ Q
    refine l_bind (for_l hb xs s0) fun c q => ?_
    cases c with
    | nx s =>
      have q : _ = _ := q
      rw [q]; exact hk s
    | brk s => exact q.elim
    | ret c =>
      obtain ⟨nv, o, q⟩ := q
      rw [q]; exact hr c nv o
end
/-! comprehensions -/
section
variable {α γ δ τ σ ρ : Type} {X : Nv → Prop} {m m1 m2 : Z γ} {Q : γ → Rs α → Prop} {Φ : Fn} {shs : Nat → Nat → Shape} {nv nv1 : Nv} {k : R → Nv → Rs α}
def turnE (Φ : Fn) (shs : Nat → Nat → Shape) (t : T) (cs : List E) (elt : E) (own : List Nat) (d : D) (nv : Nv) : Rs (Option D) := (asgD t d nv).bind fun _ nv2 => (evCs Φ shs cs nv2).bind fun b nv3 =>
        if b = true then (evE Φ shs elt nv3).bind fun r nv4 => .ok (some r.frz) (wipeN nv4 own) else .ok none (wipeN nv3 own)
def kComp (Φ : Fn) (shs : Nat → Nat → Shape) (t : T) (ik : Ik) (cs : List E) (elt : E) (own : List Nat) (k : R → Nv → Rs α) (os : List (D ⊕ Nat)) (nv1 : Nv) : Rs α := match items ik os with
    | none => .stuck
    | some xs => (compLoop (turnE Φ shs t cs elt own) xs [] (wipeN nv1 own)).nox.bind fun ys nv5 => k (.own ys) (back nv1 nv5 own)
theorem x_comp {t : T} {ik : Ik} {es cs : List E} {elt : E} {own : List Nat} (h : L X m ((evOs Φ shs es nv).bind (kComp Φ shs t ik cs elt own k)) Q) : L X m ((evE Φ shs (.comp t ik es cs elt own) nv).bind k) Q := by
  rw [evE, rbind_assoc]
  refine Eq.mp (congrArg (fun z => L X m z Q) ?_) h
  congr 1
  funext os nv1
  unfold kComp
  cases items ik os with
  | none => rfl
  | some xs =>
    dsimp only
    rw [rbind_assoc]
    rfl
theorem compS_l {g : σ → Nv} {f : D → σ → Z (Option D × σ)} {turn : D → Nv → Rs (Option D)} (hb : ∀ d s, L X (f d s) (turn d (g s)) (fun p r => r = .ok p.1 (g p.2))) : ∀ (xs acc : List D) (s : σ), acc.length + xs.length ≤ SZ → ∀ p, compS' f xs s = .ok p → compLoop turn xs acc (g s) = .ok (acc ++ p.1) (g p.2)
  | [], acc, s, hl, p, e => by
    simp only [compS', Z.ok.injEq] at e
    subst e
    simp [compLoop]
  | d :: ds, acc, s, hl, p, e => by
    simp only [compS'] at e
    have h1 := hb d s
    cases e1 : f d s with
    | ok q =>
      rw [e1] at e h1
      have h1 : turn d (g s) = .ok q.1 (g q.2) := h1.un
      simp only [compLoop, h1]
      have e : (compS' f ds q.2).bind _ = _ := e
      cases e2 : compS' f ds q.2 with
      | ok u =>
        rw [e2] at e
        have e : Z.ok _ = Z.ok p := e
        simp only [Z.ok.injEq] at e
        subst e
        obtain ⟨y, s'⟩ := q
        have hl' : acc.length + (ds.length + 1) ≤ SZ := by simpa using hl
        cases y with
        | some y =>
          show (if acc.length < SZ then compLoop turn ds (acc ++ [y]) (g s') else .stuck) = _
          rw [if_pos (by omega), compS_l hb ds (acc ++ [y]) s' (by simp; omega) u e2]
          simp
        | none =>
          show compLoop turn ds acc (g s') = _
          rw [compS_l hb ds acc s' (by omega) u e2]
      | exc c as => rw [e2] at e; cases e
      | no => rw [e2] at e; cases e
    | exc c as => rw [e1] at e; cases e
    | no => rw [e1] at e; cases e
theorem z_compS {t : T} {ik : Ik} {os : List (D ⊕ Nat)} {ds : List D} {cs : List E} {elt : E} {own : List Nat} {g g2 : σ → Nv} {f : D → σ → Z (Option D × σ)} {s0 : σ} {m' : List D × σ → Z γ} (e : os = ds.map .inl) (e0 : wipeN nv own = g s0) (e1 : ∀ s, back nv (g s) own = g2 s) (hb : ∀ d s, L (fun _ => True) (f d s) (turnE Φ shs t cs elt own d (g s)) (fun p r => r = .ok p.1 (g p.2))) (hk : ∀ p, L X (m' p) (k (.own p.1) (g2 p.2)) Q) : L X ((itD ik ds).bind fun xs => (compS f xs s0).bind m') (kComp Φ shs t ik cs elt own k os nv) Q := by
  subst e
  unfold itD kComp
  cases items ik (ds.map .inl) with
  | none => exact l_no
  | some xs =>
    show L X ((compS f xs s0).bind m') ((compLoop (turnE Φ shs t cs elt own) xs [] (wipeN nv own)).nox.bind _) Q
    unfold compS
    split
    · rename_i hl
      rw [e0]
      cases e2 : compS' f xs s0 with
      | ok p =>
        rw [compS_l hb xs [] s0 (by simpa using hl) p e2]
        show L X (m' p) (k (.own ([] ++ p.1)) (back nv (g p.2) own)) Q
        rw [e1]
        exact hk p
      | exc c as => exact l_no
      | no => exact l_no
    · exact l_no
theorem mapS_comp {f : D → σ → Z (D × σ)} : ∀ (xs : List D) (s : σ), compS' (fun d s => (f d s).bind fun p => .ok (some p.1, p.2)) xs s = mapS' f xs s
  | [], s => rfl
  | d :: ds, s => by
    simp only [compS', mapS']
    cases f d s with
    | ok p =>
      show (compS' _ ds p.2).bind _ = (mapS' f ds p.2).bind _
      rw [mapS_comp ds p.2]
    | exc c as => rfl
    | no => rfl
theorem z_mapS {t : T} {ik : Ik} {os : List (D ⊕ Nat)} {ds : List D} {cs : List E} {elt : E} {own : List Nat} {g g2 : σ → Nv} {f : D → σ → Z (D × σ)} {s0 : σ} {m' : List D × σ → Z γ} (e : os = ds.map .inl) (e0 : wipeN nv own = g s0) (e1 : ∀ s, back nv (g s) own = g2 s) (hb : ∀ d s, L (fun _ => True) (f d s) (turnE Φ shs t cs elt own d (g s)) (fun p r => r = .ok (some p.1) (g p.2))) (hk : ∀ p, L X (m' p) (k (.own p.1) (g2 p.2)) Q) : L X ((itD ik ds).bind fun xs => (mapS f xs s0).bind m') (kComp Φ shs t ik cs elt own k os nv) Q := by
  have : ∀ xs, mapS f xs s0 = compS (fun d s => (f d s).bind fun p => .ok (some p.1, p.2)) xs s0 := fun xs => by unfold mapS compS; rw [mapS_comp]
  simp only [this]
  refine z_compS e e0 e1 (fun d s => ?_) hk
  have h := hb d s
  cases e : f d s with
  | ok p => rw [e] at h; exact ⟨h.un⟩
  | exc c as => rw [e] at h; exact ⟨h.un⟩
  | no => exact l_no
theorem comp_unit {f : D → Z (Option D)} : ∀ (xs : List D), compS' (fun d (_ : Unit) => (f d).bind fun p => .ok (p, ())) xs () = (compZ' f xs).bind fun ys => .ok (ys, ())
  | [] => rfl
  | d :: ds => by
    simp only [compS', compZ']
    cases f d with
    | ok p =>
      show (compS' _ ds ()).bind _ = ((compZ' f ds).bind _).bind _
      rw [comp_unit ds]
      cases compZ' f ds <;> rfl
    | exc c as => rfl
    | no => rfl
theorem z_comp {t : T} {ik : Ik} {os : List (D ⊕ Nat)} {ds : List D} {cs : List E} {elt : E} {own : List Nat} {f : D → Z (Option D)} {m' : List D → Z γ} (nv2 : Nv) (e : os = ds.map .inl) (e0 : wipeN nv own = nv2) (e1 : back nv nv2 own = nv) (hb : ∀ d, L (fun _ => True) (f d) (turnE Φ shs t cs elt own d nv2) (fun p r => r = .ok p nv2)) (hk : ∀ p, L X (m' p) (k (.own p) nv) Q) : L X ((itD ik ds).bind fun xs => (compZ f xs).bind m') (kComp Φ shs t ik cs elt own k os nv) Q := by
  have h := z_compS (t := t) (ik := ik) (cs := cs) (elt := elt) (own := own) (g := fun _ : Unit => nv2) (g2 := fun _ => nv) (f := fun d _ => (f d).bind fun p => .ok (p, ())) (s0 := ()) (m' := fun p => m' p.1) (Φ := Φ) (shs := shs) (k := k) (X := X) (Q := Q) (nv := nv) e e0 (fun _ => e1) (fun d _ => by
    have h := hb d
    cases e : f d with
    | ok p => rw [e] at h; exact ⟨h.un⟩
    | exc c as => rw [e] at h; exact ⟨h.un⟩
    | no => exact l_no) (fun p => hk p.1)
  have : ∀ xs, (compS (fun d (_ : Unit) => (f d).bind fun p => .ok (p, ())) xs ()).bind (fun p => m' p.1) = (compZ f xs).bind m' := fun xs => by
    unfold compS compZ
    rw [comp_unit]
    split
    · cases compZ' f xs <;> rfl
    · rfl
  simpa only [this] using h
theorem map_unit {f : D → Z D} : ∀ (xs : List D), compZ' (fun d => (f d).bind fun p => .ok (some p)) xs = mapZ' f xs
  | [] => rfl
  | d :: ds => by
    simp only [compZ', mapZ']
    cases f d with
    | ok p =>
      show (compZ' _ ds).bind _ = (mapZ' f ds).bind _
      rw [map_unit ds]
    | exc c as => rfl
    | no => rfl
theorem z_map {t : T} {ik : Ik} {os : List (D ⊕ Nat)} {ds : List D} {cs : List E} {elt : E} {own : List Nat} {f : D → Z D} {m' : List D → Z γ} (nv2 : Nv) (e : os = ds.map .inl) (e0 : wipeN nv own = nv2) (e1 : back nv nv2 own = nv) (hb : ∀ d, L (fun _ => True) (f d) (turnE Φ shs t cs elt own d nv2) (fun p r => r = .ok (some p) nv2)) (hk : ∀ p, L X (m' p) (k (.own p) nv) Q) : L X ((itD ik ds).bind fun xs => (mapZ f xs).bind m') (kComp Φ shs t ik cs elt own k os nv) Q := by
  have : ∀ xs, mapZ f xs = compZ (fun d => (f d).bind fun p => .ok (some p)) xs := fun xs => by unfold mapZ compZ; rw [map_unit]
  simp only [this]
  refine z_comp nv2 e e0 e1 (fun d => ?_) hk
  have h := hb d
  cases e : f d with
  | ok p => rw [e] at h; exact ⟨h.un⟩
  | exc c as => rw [e] at h; exact ⟨h.un⟩
  | no => exact l_no
/-- the element -/
theorem t_go {t : T} {cs : List E} {elt : E} {own : List Nat} {d : D} {m : Z γ} {Q : γ → Rs (Option D) → Prop} (h : L X m ((asgD t d nv).bind fun _ nv2 => (evCs Φ shs cs nv2).bind fun b nv3 =>
        if b = true then (evE Φ shs elt nv3).bind fun r nv4 => .ok (some r.frz) (wipeN nv4 own) else .ok none (wipeN nv3 own)) Q) : L X m (turnE Φ shs t cs elt own d nv) Q := h
theorem c_nil {k : Bool → Nv → Rs α} (h : L X m (k true nv) Q) : L X m ((evCs Φ shs [] nv).bind k) Q := by rw [evCs]; exact h
def kC1 (k : Bool → Nv → Rs α) (r : R) (nv1 : Nv) : Rs α := match r with
    | .val (.bl b) => k b nv1
    | _ => .stuck
theorem c_one {c : E} {k : Bool → Nv → Rs α} (h : L X m ((evE Φ shs c nv).bind (kC1 k)) Q) : L X m ((evCs Φ shs [c] nv).bind k) Q := by
  rw [evCs, rbind_assoc]
  refine Eq.mp (congrArg (fun z => L X m z Q) ?_) h
  congr 1
  funext r nv1
  unfold kC1
  cases r with
  | val d =>
    cases d with
    | bl b =>
      cases b with
      | true => dsimp only; rw [evCs]; rfl
      | false => rfl
    | _ => rfl
  | own ds => rfl
theorem z_c1 {d : D} {m1 m2 : Z γ} {elt : E} {own : List Nat} {Q : γ → Rs (Option D) → Prop} (h1 : L X m1 ((evE Φ shs elt nv).bind fun r nv4 => .ok (some r.frz) (wipeN nv4 own)) Q) (h2 : L X m2 (Rs.ok none (wipeN nv own)) Q) : L X (zite d m1 m2) (kC1 (fun b nv3 => if b = true then (evE Φ shs elt nv3).bind fun r nv4 => .ok (some r.frz) (wipeN nv4 own) else .ok none (wipeN nv3 own)) (.val d) nv) Q := by
  cases d with
  | bl v => cases v with
    | true => exact h1
    | false => exact h2
  | _ => exact l_no
theorem t_true {elt : E} {own : List Nat} {Q : γ → Rs (Option D) → Prop} (h : L X m ((evE Φ shs elt nv).bind fun r nv4 => .ok (some r.frz) (wipeN nv4 own)) Q) : L X m (if (true = true) then (evE Φ shs elt nv).bind fun r nv4 => .ok (some r.frz) (wipeN nv4 own) else .ok none (wipeN nv own)) Q := by
  rw [if_pos rfl]; exact h
theorem qt {s : γ} {o : Option D} {Q : γ → Rs (Option D) → Prop} (h : Q s (.ok o nv)) : L X (.ok s) (Rs.ok o nv) Q := ⟨h⟩
end
/-! defs -/
section
variable {ρ : Type} {Φ : Fn} {shs : Nat → Nat → Shape}
theorem fq_pure {d : Df} {m : Z ρ} {h : ρ → R} {ds : List D} (hp : d.pr = []) (hb : L (fun _ => True) m (evB Φ shs d.body (startNv d.n (ds.map .val))) (QF h (fun _ _ => True))) : FqP m (runDf Φ shs d (ds.map .val)) h (ds.map .val) := by
  have lk : lentOk d.pr (ds.map .val) = true := by
    unfold lentOk
    rw [List.all_eq_true]
    intro p hp
    rw [List.getElem?_map]
    cases ds[p]? <;> rfl
  have oo : ∀ nv, outsOf d.pr (ds.map .val) nv = some (ds.map .val) := by
    intro nv
    rw [hp]
    unfold outsOf
    have : ∀ (ss : List Sl) (n : Nat), n ≤ ss.length → (List.range n).mapM (fun p => if ([] : List Nat).contains p = true then nv[p]?.join else ss[p]?) = some (ss.take n) := by
      intro ss n hn
      induction n with
      | zero => simp
      | succ n ih =>
        rw [List.range_succ, List.mapM_append, ih (by omega)]
        have hn' : n < ss.length := by omega
        rw [List.take_succ]
        simp [List.getElem?_eq_getElem hn']
    rw [this _ _ (Nat.le_refl _), List.take_length]
  unfold runDf
  rw [if_pos lk]
  refine ⟨?_⟩
  cases m with
  | ok c =>
    obtain ⟨nv, _, q | ⟨q, e⟩⟩ := hb.un
    · rw [q]
      simp only [endDf, oo]
    · rw [q]
      simp only [endDf, oo]
      show Cr.ok _ _ = Cr.ok _ _
      rw [e]
  | exc c as =>
    obtain ⟨e, _, q⟩ := hb.un
    rw [q]
    simp only [endDf, oo]
  | no => trivial
theorem fq_lent {d : Df} {X : Nv → Prop} {m : Z ρ} {h : ρ → R} {o : ρ → List Sl} {ss : List Sl} (lk : lentOk d.pr ss = true) (hb : L X m (evB Φ shs d.body (startNv d.n ss)) (QF h (fun c nv => outsOf d.pr ss nv = some (o c)))) : FqL m (runDf Φ shs d ss) h o := by
  unfold runDf
  rw [if_pos lk]
  refine ⟨?_⟩
  cases m with
  | ok c =>
    obtain ⟨nv, ho, q | ⟨q, e⟩⟩ := hb.un
    · rw [q]
      simp only [endDf, ho]
    · rw [q]
      simp only [endDf, ho]
      show Cr.ok _ _ = Cr.ok _ _
      rw [e]
  | exc c as => trivial
  | no => trivial
end
end
end G
namespace G
open PySem L2
/-! ### reasoning about plain readings -/
def Zw {α : Type} (m : Z α) (Q : α → Prop) : Prop := ∃ a, m = .ok a ∧ Q a
section
variable {α β σ ρ : Type} {Q : α → Prop}
theorem zw_ok {a : α} : Zw (.ok a) Q ↔ Q a := ⟨fun ⟨_, e, h⟩ => by cases e; exact h, fun h => ⟨a, rfl, h⟩⟩
theorem zw_no : Zw (.no : Z α) Q ↔ False := ⟨fun ⟨_, e, _⟩ => (nomatch e), False.elim⟩
theorem zw_exc {c : Nat} {as : List D} : Zw (.exc c as : Z α) Q ↔ False := ⟨fun ⟨_, e, _⟩ => (nomatch e), False.elim⟩
theorem zw_nox {m : Z α} : Zw m.nox Q ↔ Zw m Q := by
  cases m with
  | ok a => exact Iff.rfl
  | exc c as => exact ⟨fun ⟨_, e, _⟩ => (nomatch e), fun ⟨_, e, _⟩ => (nomatch e)⟩
  | no => exact Iff.rfl
theorem Zw.imp {m : Z α} {P : α → Prop} (h : Zw m P) (k : ∀ a, P a → Q a) : Zw m Q := by
  obtain ⟨a, e, h⟩ := h
  exact ⟨a, e, k a h⟩
theorem zc {m : Z β} {f : β → Z α} {P : β → Prop} (h : Zw m P) (k : ∀ a, P a → Zw (f a) Q) : Zw (m.bind f) Q := by
  obtain ⟨a, e, h⟩ := h
  subst e
  exact k a h
theorem zcn {m : Z β} {f : β → Z α} {P : β → Prop} (h : Zw m P) (k : ∀ a, P a → Zw (f a) Q) : Zw (m.nox.bind f) Q := zc (zw_nox.mpr h) k
theorem Zw.eq {m : Z α} {a : α} (h : Zw m fun x => x = a) : m = .ok a := by
  obtain ⟨x, e, rfl⟩ := h
  exact e
theorem bind_ok' {a : α} {f : α → Z β} : (Z.ok a).bind f = f a := rfl
theorem nox_ok {a : α} : (Z.ok a).nox = .ok a := id rfl
theorem bind_id {m : Z α} : (m.bind fun r => .ok r) = m := by cases m <;> rfl
/-! what single steps give -/
theorem add_i {a b : Int} : z2 .add (.int a) (.int b) = .ok (.int (a + b)) := id rfl
theorem sub_i {a b : Int} : z2 .sub (.int a) (.int b) = .ok (.int (a - b)) := id rfl
theorem lt_i {a b : Int} : z2 .lt (.int a) (.int b) = .ok (.bl (decide (a < b))) := id rfl
theorem le_i {a b : Int} : z2 .le (.int a) (.int b) = .ok (.bl (decide (a ≤ b))) := id rfl
theorem gt_i {a b : Int} : z2 .gt (.int a) (.int b) = .ok (.bl (decide (b < a))) := id rfl
theorem ge_i {a b : Int} : z2 .ge (.int a) (.int b) = .ok (.bl (decide (b ≤ a))) := id rfl
theorem eq_i {a b : Int} : z2 .eq (.int a) (.int b) = .ok (.bl (decide (a = b))) := id rfl
theorem ne_i {a b : Int} : z2 .ne (.int a) (.int b) = .ok (.bl (!decide (a = b))) := id rfl
theorem eq_s {a b : Str} : z2 .eq (.str a) (.str b) = .ok (.bl (decide (a = b))) := id rfl
theorem ne_s {a b : Str} : z2 .ne (.str a) (.str b) = .ok (.bl (!decide (a = b))) := id rfl
theorem eq_b {a b : Bool} : z2 .eq (.bl a) (.bl b) = .ok (.bl (decide (a = b))) := id rfl
theorem ne_b {a b : Bool} : z2 .ne (.bl a) (.bl b) = .ok (.bl (!decide (a = b))) := id rfl
theorem max_i {a b : Int} : z2 .max (.int a) (.int b) = .ok (.int (max a b)) := by
  show Z.ok (D.int (if b > a then b else a)) = _
  congr 2
  omega
theorem min_i {a b : Int} : z2 .min (.int a) (.int b) = .ok (.int (min a b)) := by
  show Z.ok (D.int (if b < a then b else a)) = _
  congr 2
  omega
theorem mod_i {a b : Int} (h : 0 < b) : z2 .mod (.int a) (.int b) = .ok (.int (a % b)) := by
  unfold z2 p2 pMod
  simp only [h, if_true, zval]
theorem fdiv_i {a b : Int} (h : 0 < b) (h2 : b < 1073741824) : z2 .fdiv (.int a) (.int b) = .ok (.int (a / b)) := by
  unfold z2 p2 pFdiv
  simp only [h, h2, and_self, if_true, zval]
theorem mul_i {a b : Int} (h : (-(2 ^ 64) < a ∧ a < 2 ^ 64) ∨ (-(2 ^ 64) < b ∧ b < 2 ^ 64)) : z2 .mul (.int a) (.int b) = .ok (.int (a * b)) := by
  unfold z2 p2 pMul
  simp only [h, if_true, zval]
theorem add_l {a b : List D} (h : a.length + b.length ≤ SZ) : z2o .add (.lst a) (.lst b) = .ok (a ++ b) := by
  unfold z2o p2 pAdd
  simp only [h, if_true, zown]
theorem ixN_nat {n k : Nat} (h : k < n) : ixN n (k : Int) = some k := by
  unfold ixN
  rw [if_pos (by omega), if_pos (by omega)]
  simp
theorem ix_t {xs : List D} {k : Nat} {d : D} (h : xs[k]? = some d) : z2 .ix (.tup xs) (.int k) = .ok d := by
  unfold z2 p2 pIx atI
  dsimp only
  rw [ixN_nat (List.getElem?_eq_some_iff.mp h).1]
  simp only [Option.bind_some, h, Option.map_some, zval]
theorem ix_l {xs : List D} {k : Nat} {d : D} (h : xs[k]? = some d) : z2 .ix (.lst xs) (.int k) = .ok d := by
  unfold z2 p2 pIx atI
  dsimp only
  rw [ixN_nat (List.getElem?_eq_some_iff.mp h).1]
  simp only [Option.bind_some, h, Option.map_some, zval]
theorem len_t {xs : List D} : z1 .len (.tup xs) = .ok (.int xs.length) := id rfl
theorem len_l {xs : List D} : z1 .len (.lst xs) = .ok (.int xs.length) := id rfl
theorem len_s {s : Str} (h : s.length ≤ SZ) : z1 .len (.str s) = .ok (.int s.length) := by
  unfold z1 p1 pLen
  simp only [h, if_true, zval]
theorem tr_b {b : Bool} : z1 .truth (.bl b) = .ok (.bl b) := id rfl
theorem tr_i {i : Int} : z1 .truth (.int i) = .ok (.bl (i != 0)) := id rfl
theorem tr_n : z1 .truth .non = .ok (.bl false) := id rfl
theorem tr_t {xs : List D} : z1 .truth (.tup xs) = .ok (.bl !xs.isEmpty) := id rfl
theorem tr_l {xs : List D} : z1 .truth (.lst xs) = .ok (.bl !xs.isEmpty) := id rfl
theorem isN_n : z1 .isN .non = .ok (.bl true) := id rfl
theorem isN_t {xs : List D} : z1 .isN (.tup xs) = .ok (.bl false) := id rfl
theorem isN_l {xs : List D} : z1 .isN (.lst xs) = .ok (.bl false) := id rfl
theorem isN_i {i : Int} : z1 .isN (.int i) = .ok (.bl false) := id rfl
theorem isN_s {i : Str} : z1 .isN (.str i) = .ok (.bl false) := id rfl
theorem isN_b {i : Bool} : z1 .isN (.bl i) = .ok (.bl false) := id rfl
theorem noN_n : z1 .notN .non = .ok (.bl false) := id rfl
theorem noN_t {xs : List D} : z1 .notN (.tup xs) = .ok (.bl true) := id rfl
theorem noN_l {xs : List D} : z1 .notN (.lst xs) = .ok (.bl true) := id rfl
theorem noN_i {i : Int} : z1 .notN (.int i) = .ok (.bl true) := id rfl
theorem noN_s {i : Str} : z1 .notN (.str i) = .ok (.bl true) := id rfl
theorem noN_b {i : Bool} : z1 .notN (.bl i) = .ok (.bl true) := id rfl
theorem tupl_l {xs : List D} : z1 .tupl (.lst xs) = .ok (.tup xs) := id rfl
theorem tupl_t {xs : List D} : z1 .tupl (.tup xs) = .ok (.tup xs) := id rfl
theorem list_t {xs : List D} : z1o .list (.tup xs) = .ok xs := id rfl
theorem list_l {xs : List D} : z1o .list (.lst xs) = .ok xs := id rfl
theorem int_i {i : Int} : z1 .int (.int i) = .ok (.int i) := id rfl
theorem neg_i {i : Int} : z1 .neg (.int i) = .ok (.int (-i)) := id rfl
theorem abs_i {i : Int} : z1 .abs (.int i) = .ok (.int (i.natAbs : Nat)) := by
  show Z.ok (D.int (if i < 0 then -i else i)) = _
  congr 2
  omega
theorem intsD_map : ∀ ns : List Int, intsD (ns.map .int) = some ns
  | [] => rfl
  | n :: ns => by simp only [List.map_cons, intsD, intsD_map ns, Option.map_some]
theorem strsD_map : ∀ ns : List Str, strsD (ns.map .str) = some ns
  | [] => rfl
  | n :: ns => by simp only [List.map_cons, strsD, strsD_map ns, Option.map_some]
theorem ite_b {b : Bool} {m n : Z α} : zite (.bl b) m n = if b = true then m else n := by cases b <;> rfl
theorem and_b {b : Bool} {m : Z D} : zand (.bl b) m = if b = true then m else .ok (.bl false) := by cases b <;> rfl
theorem or_b {b : Bool} {m : Z D} : zor (.bl b) m = if b = true then .ok (.bl true) else m := by cases b <;> rfl
theorem not_b {b : Bool} : znot (.bl b) = .ok (.bl !b) := id rfl
theorem part_i {i : Int} {f : Int → Z α} : zpart (.int i) f = f i := id rfl
theorem un2 {a b : D} : zun2 (.tup [a, b]) = .ok (a, b) := id rfl
theorem un3 {a b c : D} : zun3 (.tup [a, b, c]) = .ok (a, b, c) := id rfl
theorem fl_nx {s : σ} {f : σ → Z α} {g : ρ → Z α} : zfl (.nx s) f g = f s := id rfl
theorem fl_ret {c : ρ} {f : σ → Z α} {g : ρ → Z α} : zfl (.ret c : Fz σ ρ) f g = g c := id rfl
theorem cut_mid (xs : List D) (a b : Nat) : cutD xs (some (a : Int)) (some (b : Int)) = (xs.drop a).take (b - a) := by
  unfold cutD
  rw [HT.sIx_nat, HT.sIx_nat]
  by_cases h : a ≤ xs.length
  · rw [Nat.min_eq_left h]
    rw [List.take_eq_take_iff]
    simp
    omega
  · rw [Nat.min_eq_right (by omega : xs.length ≤ a)]
    rw [List.drop_eq_nil_of_le (by omega : xs.length ≤ xs.length), List.drop_eq_nil_of_le (by omega : xs.length ≤ a)]
    simp
theorem cut_none (xs : List D) : cutD xs none none = xs := by
  unfold cutD
  rw [HT.sIx_none, HT.sIx_none]
  simp
theorem slc_t {xs : List D} {l h : Option Int} : zslc (.tup xs) l h = .ok (.tup (cutD xs l h)) := id rfl
theorem slc_l {xs : List D} {l h : Option Int} : zslco (.lst xs) l h = .ok (cutD xs l h) := id rfl
theorem app_ok {xs : List D} {y : D} (h : xs.length < SZ) : zapp xs y = .ok (xs ++ [y]) := by unfold zapp; rw [if_pos h]
theorem st_ok {xs : List D} {k : Nat} {d : D} (h : k < xs.length) : zst xs (.int k) d = .ok (xs.set k d) := by
  unfold zst
  dsimp only
  rw [ixN_nat h]
theorem it_seqT {xs : List D} : itD .seq [.tup xs] = .ok xs := id rfl
theorem it_seqL {xs : List D} : itD .seq [.lst xs] = .ok xs := id rfl
theorem it_revT {xs : List D} : itD .rev [.tup xs] = .ok xs.reverse := id rfl
theorem it_revL {xs : List D} : itD .rev [.lst xs] = .ok xs.reverse := id rfl
theorem it_enumT {xs : List D} : itD .enum [.tup xs] = .ok ((xs.zipIdx).map fun p => .tup [.int (p.2 : Nat), p.1]) := id rfl
theorem it_enumL {xs : List D} : itD .enum [.lst xs] = .ok ((xs.zipIdx).map fun p => .tup [.int (p.2 : Nat), p.1]) := id rfl
theorem it_zipT {xs ys : List D} : itD .zip [.tup xs, .tup ys] = .ok ((xs.zip ys).map fun p => .tup [p.1, p.2]) := id rfl
theorem it_zipL {xs ys : List D} : itD .zip [.lst xs, .lst ys] = .ok ((xs.zip ys).map fun p => .tup [p.1, p.2]) := id rfl
theorem b62_of {i : Int} (h : -4611686018427387904 ≤ i) (h2 : i < 4611686018427387904) : b62 i = true := by
  simp [b62, h, h2]
theorem it_rng {n : Int} (h : -4611686018427387904 ≤ n) (h2 : n < 4611686018427387904) : itD .rng [.int n] = .ok ((List.range n.toNat).map fun k => .int (k : Nat)) := by
  unfold itD
  show Z.of (if b62 n = true then some ((List.range n.toNat).map fun k => D.int (k : Nat)) else none) = _
  rw [if_pos (b62_of h h2)]
  rfl
theorem it_rngN {n : Nat} (h : n ≤ SZ) : itD .rng [.int n] = .ok ((List.range n).map fun k => .int (k : Nat)) := by
  rw [it_rng (by omega) (by simp [SZ] at h; omega)]
  simp
/-! loops -/
theorem zw_fold {f : D → σ → Z σ} {Q : σ → Prop} (I : List D → σ → Prop) : ∀ {xs : List D} {s : σ}, I xs s → (∀ d ds s, I (d :: ds) s → Zw (f d s) (I ds)) → (∀ s, I [] s → Q s) → Zw (foldZ f xs s) Q
  | [], s, i, h, q => zw_ok.mpr (q s i)
  | d :: ds, s, i, h, q => by
    simp only [foldZ]
    exact zc (h d ds s i) fun s' i' => zw_fold I i' h q
theorem fold_eq {f : D → σ → Z σ} {β : Type} (enc : β → D) (g : σ → β → σ) (I : σ → Prop) : ∀ {ys : List β} {s : σ}, I s → (∀ y, y ∈ ys → ∀ s, I s → f (enc y) s = .ok (g s y) ∧ I (g s y)) → foldZ f (ys.map enc) s = .ok (ys.foldl g s) ∧ I (ys.foldl g s)
  | [], s, i, h => ⟨rfl, i⟩
  | y :: ys, s, i, h => by
    obtain ⟨h1, h2⟩ := h y (List.mem_cons_self ..) s i
    simp only [List.map_cons, foldZ, h1, bind_ok', List.foldl_cons]
    exact fold_eq enc g I h2 fun y hy => h y (List.mem_cons_of_mem _ hy)
theorem zw_for {f : D → σ → Z (Fz σ ρ)} {Q : Fz σ ρ → Prop} (I : List D → σ → Prop) : ∀ {xs : List D} {s : σ}, I xs s → (∀ d ds s, I (d :: ds) s → Zw (f d s) fun r => match r with
    | .nx s => I ds s
    | .brk s => Q (.nx s)
    | .ret c => Q (.ret c)) → (∀ s, I [] s → Q (.nx s)) → Zw (forZ f xs s) Q
  | [], s, i, h, q => zw_ok.mpr (q s i)
  | d :: ds, s, i, h, q => by
    simp only [forZ]
    refine zc (h d ds s i) fun r i' => ?_
    cases r with
    | nx s' => exact zw_for I i' h q
    | brk s' => exact zw_ok.mpr i'
    | ret c => exact zw_ok.mpr i'
/-- a loop that only looks: all pass, or the first that doesn't ends it -/
theorem for_all {f : D → Unit → Z (Fz Unit ρ)} {β : Type} (enc : β → D) (p : β → Bool) (c : ρ) : ∀ {ys : List β}, (∀ y, y ∈ ys → f (enc y) () = .ok (if p y = true then .nx () else .ret c)) → forZ f (ys.map enc) () = .ok (if ys.all p = true then .nx () else .ret c)
  | [], h => rfl
  | y :: ys, h => by
    have h1 := h y (List.mem_cons_self ..)
    have h2 := for_all enc p c (ys := ys) fun y hy => h y (List.mem_cons_of_mem _ hy)
    simp only [List.map_cons, forZ, h1, bind_ok']
    by_cases hp : p y = true
    · simp [hp, h2]
    · simp [hp]
theorem map'_eq {f : D → Z D} {β : Type} (enc : β → D) (g : β → D) : ∀ {ys : List β}, (∀ y, y ∈ ys → f (enc y) = .ok (g y)) → mapZ' f (ys.map enc) = .ok (ys.map g)
  | [], h => rfl
  | y :: ys, h => by
    simp only [List.map_cons, mapZ', h y (List.mem_cons_self ..), map'_eq enc g (ys := ys) fun y hy => h y (List.mem_cons_of_mem _ hy), bind_ok']
theorem map_eq {f : D → Z D} {β : Type} (enc : β → D) (g : β → D) {ys : List β} (hl : ys.length ≤ SZ) (h : ∀ y, y ∈ ys → f (enc y) = .ok (g y)) : mapZ f (ys.map enc) = .ok (ys.map g) := by
  unfold mapZ
  rw [if_pos (by simpa using hl), map'_eq enc g h]
  rfl
theorem comp'_eq {f : D → Z (Option D)} {β : Type} (enc : β → D) (g : β → Option D) : ∀ {ys : List β}, (∀ y, y ∈ ys → f (enc y) = .ok (g y)) → compZ' f (ys.map enc) = .ok (ys.filterMap g)
  | [], h => rfl
  | y :: ys, h => by
    simp only [List.map_cons, compZ', h y (List.mem_cons_self ..), comp'_eq enc g (ys := ys) fun y hy => h y (List.mem_cons_of_mem _ hy), bind_ok', List.filterMap_cons]
    cases g y <;> rfl
theorem comp_eq {f : D → Z (Option D)} {β : Type} (enc : β → D) (g : β → Option D) {ys : List β} (hl : ys.length ≤ SZ) (h : ∀ y, y ∈ ys → f (enc y) = .ok (g y)) : compZ f (ys.map enc) = .ok (ys.filterMap g) := by
  unfold compZ
  rw [if_pos (by simpa using hl), comp'_eq enc g h]
  rfl
theorem zw_mapS' {f : D → σ → Z (D × σ)} {Q : List D × σ → Prop} (I : List D → List D → σ → Prop) : ∀ {xs : List D} {s : σ} {acc : List D}, I xs acc s → (∀ d ds acc s, I (d :: ds) acc s → Zw (f d s) fun p => I ds (acc ++ [p.1]) p.2) → (∀ acc s, I [] acc s → Q (acc, s)) → Zw (mapS' f xs s) fun p => Q (acc ++ p.1, p.2)
  | [], s, acc, i, h, q => zw_ok.mpr (by simpa using q acc s i)
  | d :: ds, s, acc, i, h, q => by
    simp only [mapS']
    refine zc (h d ds acc s i) fun p i' => ?_
    refine zc (zw_mapS' I i' h q) fun r q' => zw_ok.mpr ?_
    simpa using q'
theorem zw_mapS {f : D → σ → Z (D × σ)} {Q : List D × σ → Prop} {xs : List D} {s : σ} (I : List D → List D → σ → Prop) (hl : xs.length ≤ SZ) (i : I xs [] s) (h : ∀ d ds acc s, I (d :: ds) acc s → Zw (f d s) fun p => I ds (acc ++ [p.1]) p.2) (q : ∀ acc s, I [] acc s → Q (acc, s)) : Zw (mapS f xs s) Q := by
  unfold mapS
  rw [if_pos hl, zw_nox]
  simpa using zw_mapS' I i h q
/-- each element is good, the state stays good -/
theorem zw_mapS_all {f : D → σ → Z (D × σ)} {xs : List D} {s : σ} (P : D → Prop) (J : σ → Prop) (hl : xs.length ≤ SZ) (j : J s) (h : ∀ d, d ∈ xs → ∀ s, J s → Zw (f d s) fun p => P p.1 ∧ J p.2) : Zw (mapS f xs s) fun p => p.1.length = xs.length ∧ (∀ d ∈ p.1, P d) ∧ J p.2 := by
  refine zw_mapS (fun r acc s => (∀ d ∈ r, d ∈ xs) ∧ acc.length + r.length = xs.length ∧ (∀ d ∈ acc, P d) ∧ J s) hl ⟨fun d hd => hd, by simp, by simp, j⟩ ?_ ?_
  · rintro d ds acc s ⟨i1, i2, i3, i4⟩
    refine (h d (i1 d (List.mem_cons_self ..)) s i4).imp fun p hp => ⟨fun e he => i1 e (List.mem_cons_of_mem _ he), ?_, ?_, hp.2⟩
    · simp at i2 ⊢; omega
    · intro e he
      rcases List.mem_append.mp he with he | he
      · exact i3 e he
      · rw [List.mem_singleton.mp he]; exact hp.1
  · rintro acc s ⟨_, i2, i3, i4⟩
    exact ⟨by simpa using i2, i3, i4⟩
end
end G
namespace G
open PySem PySem.Spec PyProof.Rows L2
variable [Tb]
section
variable {C : Cfg} {W : WX} {M H M1 H1 : Hp} {σ σ' : L2.St} {nv nv1 : Nv} {Φ : Fn} {shs : Nat → Nat → Shape} {K : PySem.W.Frag} {x y : Expr} {a b : E} {pos : Pos}
/-! ### x += e of numbers -/
/-! ### divmod, max -/
/-! ### range with the step -1, list(range(..)) -/
/-! ### methods -/
/-! ### xs[k] += e of numbers -/
/-! ### a, b = x, y -/
/-! ### max of a tuple of ints -/
end
end G
namespace G
open PySem PySem.Spec PyProof.Rows L2
end G
namespace G
open PySem PySem.Spec PyProof.Rows L2
section
variable [Tb] {C : Cfg} {W : WX} {M H M1 H1 : Hp} {σ σ' : L2.St} {nv nv1 : Nv} {Φ : Fn} {shs : Nat → Nat → Shape} {x : Expr} {a : E} {pos : Pos}
end
end G
namespace G
noncomputable section
open PySem L2
section
variable {α γ : Type} {X : Nv → Prop} {m : Z γ} {Q : γ → Rs α → Prop} {Φ : Fn} {shs : Nat → Nat → Shape} {nv nv1 : Nv} {k : R → Nv → Rs α}
end
end
end G
namespace G
open PySem L2
/-- _law_tape(script) -/
def f_law_tape (script : D) : Z (List D) :=
  (itD .seq [script]).bind fun xs4 =>
  (foldZ (fun d3 (s1 : D) =>
  (z2 .mul s1 (D.int 31)).bind fun r5 =>
    (z1 .int d3).bind fun r6 =>
    (z1 .abs r6).bind fun r7 =>
    (z2 .add r5 r7).bind fun r8 =>
    (z1 .int r8).bind fun r9 =>
    (z2 .mod r9 (D.int 2147483647)).bind fun r10 =>
    .ok r10) xs4 (D.int 7)).bind fun s2 =>
  (z1o .list script).bind fun r11 =>
  .ok [(D.lst r11), (D.int 0), (D.int 0), s2]
/-- _law_draw(tape, many) -/
def f_law_draw (tape : List D) (many : D) : Z (D × List D) :=
  (z2 .ix (D.lst tape) (D.int 2)).bind fun r1 =>
  (z2 .eq r1 (D.int 0)).bind fun r2 =>
  zite r2 (
  (z2 .ix (D.lst tape) (D.int 1)).bind fun r3 =>
    (z2 .ix (D.lst tape) (D.int 0)).bind fun r4 =>
    (z1 .len r4).bind fun r5 =>
    (z2 .lt r3 r5).bind fun r6 =>
    (zite r6 (
    (z2 .ix (D.lst tape) (D.int 0)).bind fun r7 =>
      (z2 .ix r7 r3).bind fun r8 =>
      (z1 .int r8).bind fun r9 =>
      (z1 .abs r9).bind fun r10 =>
      .ok (tape, r10)) (
    (z2 .ix (D.lst tape) (D.int 3)).bind fun r11 =>
      (z2 .mul r11 (D.int 48271)).bind fun r12 =>
      (z2 .add r12 r3).bind fun r13 =>
      (z2 .add r13 (D.int 1)).bind fun r14 =>
      (z1 .int r14).bind fun r15 =>
      (z2 .mod r15 (D.int 2147483647)).bind fun r16 =>
      (zst tape (D.int 3) r16).bind fun l17 =>
      (z2 .ix (D.lst l17) (D.int 3)).bind fun r18 =>
      .ok (l17, r18))).bind fun (s19 : List D × D) =>
    (z2 .add r3 (D.int 1)).bind fun r20 =>
    (zst s19.1 (D.int 1) r20).bind fun l21 =>
    (z2 .pow (D.int 10) (D.int 18)).bind fun r22 =>
    (z2 .lt s19.2 r22).bind fun r23 =>
    zite r23 (
    (z2 .mul s19.2 (D.int 48271)).bind fun r24 =>
      (z2 .mul r3 (D.int 69621)).bind fun r25 =>
      (z2 .add r24 r25).bind fun r26 =>
      (z2 .add r26 (D.int 5)).bind fun r27 =>
      (z1 .int r27).bind fun r28 =>
      (z2 .mod r28 (D.int 2147483647)).bind fun r29 =>
      (z2 .mul r29 (D.int 69621)).bind fun r30 =>
      (z1 .int r30).bind fun r31 =>
      (z2 .mod r31 (D.int 2147483629)).bind fun r32 =>
      (z1 .int r32).bind fun r33 =>
      (z2 .max many (D.int 1)).bind fun r34 =>
      (z2 .mod r33 r34).bind fun r35 =>
      .ok (r35, l21)) (
    (zst l21 (D.int 2) s19.2).bind fun l36 =>
      (z2 .ix (D.lst l36) (D.int 2)).bind fun r37 =>
      (z2 .max many (D.int 2)).bind fun r38 =>
      (z2 .fdiv r37 r38).bind fun r39 =>
      (zst l36 (D.int 2) r39).bind fun l40 =>
      (z1 .int r37).bind fun r41 =>
      (z2 .max many (D.int 1)).bind fun r42 =>
      (z2 .mod r41 r42).bind fun r43 =>
      .ok (r43, l40))) (
  (z2 .ix (D.lst tape) (D.int 2)).bind fun r44 =>
    (z2 .max many (D.int 2)).bind fun r45 =>
    (z2 .fdiv r44 r45).bind fun r46 =>
    (zst tape (D.int 2) r46).bind fun l47 =>
    (z1 .int r44).bind fun r48 =>
    (z2 .max many (D.int 1)).bind fun r49 =>
    (z2 .mod r48 r49).bind fun r50 =>
    .ok (r50, l47))
/-- _law_same(actual, expected) -/
def f_law_same : Nat → D → D → Z (D)
  | 0, _, _ => .no
  | fuel + 1, actual, expected =>
    (z1 .isN expected).bind fun r1 =>
    zite r1 (
    (z1 .isN actual).bind fun r2 =>
      .ok r2) (
    (z1 (.isi 0) expected).bind fun r3 =>
      (z1 .truth r3).bind fun r4 =>
      zite r4 (
      (z1 (.isi 0) actual).bind fun r5 =>
        (z1 .truth r5).bind fun r6 =>
        (znot r6).bind fun r7 =>
        (zor r7 ((z1 .len actual).bind fun r8 =>
          (z1 .len expected).bind fun r9 =>
          (z2 .ne r8 r9).bind fun r10 =>
          .ok r10)).bind fun r11 =>
        zite r11 (
        .ok (D.bl false)) (
        (z1 .len expected).bind fun r12 =>
          (itD .rng [r12]).bind fun xs16 =>
          (forZ (σ := Unit) (ρ := D) (fun d15 s13 =>
          (z2 .ix actual d15).bind fun r17 =>
            (z2 .ix expected d15).bind fun r18 =>
            (f_law_same fuel r17 r18).bind fun r19 =>
            (z1 .truth r19).bind fun r20 =>
            (znot r20).bind fun r21 =>
            zite r21 (
            .ok (.ret (D.bl false))) (
            .ok (.nx ()))) xs16 ()).bind fun c => zfl c (fun s14 =>
          .ok (D.bl true)) fun c => .ok c)) (
      (z1 (.isi 1) expected).bind fun r22 =>
        (z1 .truth r22).bind fun r23 =>
        zite r23 (
        (z1 (.isi 1) actual).bind fun r24 =>
          (zand r24 ((z2 .eq actual expected).bind fun r25 =>
            .ok r25)).bind fun r26 =>
          .ok r26) (
        (z1 (.isi 2) expected).bind fun r27 =>
          (z1 .truth r27).bind fun r28 =>
          zite r28 (
          (z1 (.isi 2) actual).bind fun r29 =>
            (zand r29 ((z2 .eq actual expected).bind fun r30 =>
              .ok r30)).bind fun r31 =>
            .ok r31) (
          (z1 (.isi 3) actual).bind fun r32 =>
            (zand r32 ((z1 (.isi 1) actual).bind fun r33 =>
              (znot r33).bind fun r34 =>
              (zand r34 ((z2 .eq actual expected).bind fun r35 =>
                .ok r35)).bind fun r36 =>
              .ok r36)).bind fun r37 =>
            .ok r37))))
end G
namespace G
open PySem L2
/-! ### the law's tape -/
def Tp (tape : List D) : Prop := ∃ (xs : List Int) (p : Nat) (b s : Int), 0 ≤ b ∧ 0 ≤ s ∧ tape = [.lst (xs.map .int), .int p, .int b, .int s]
theorem pow18 : z2 .pow (.int 10) (.int 18) = .ok (.int 1000000000000000000) := rfl
theorem mulL {a b : Int} (h : -(2 ^ 64) < b ∧ b < 2 ^ 64) : z2 .mul (.int a) (.int b) = .ok (.int (a * b)) := mul_i (.inr h)
theorem it_scr {ns : List Int} : itD .seq [.scr ns] = .ok (ns.map .int) := id rfl
theorem list_scr {ns : List Int} : z1o .list (.scr ns) = .ok (ns.map .int) := id rfl
theorem tape_ok (ns : List Int) : Zw (f_law_tape (.scr ns)) Tp := by
  unfold f_law_tape
  rw [it_scr, bind_ok']
  obtain ⟨h1, h2⟩ := fold_eq (f := fun d3 (s1 : D) =>
    (z2 .mul s1 (D.int 31)).bind fun r5 => (z1 .int d3).bind fun r6 => (z1 .abs r6).bind fun r7 => (z2 .add r5 r7).bind fun r8 => (z1 .int r8).bind fun r9 => (z2 .mod r9 (D.int 2147483647)).bind fun r10 => .ok r10)
    D.int (fun s (y : Int) => match s with | .int a => .int ((a * 31 + (y.natAbs : Nat)) % 2147483647) | s => s) (fun s => ∃ t : Int, 0 ≤ t ∧ s = .int t) (ys := ns) (s := .int 7) ⟨7, by decide, rfl⟩ (by
      rintro y _ s ⟨t, ht, rfl⟩
      refine ⟨?_, _, Int.emod_nonneg _ (by decide), rfl⟩
      simp -implicitDefEqProofs only [G.zw_ok, G.zw_no, G.zw_exc, G.bind_ok', G.nox_ok, G.add_i, G.sub_i, G.lt_i, G.le_i, G.gt_i, G.ge_i, G.eq_i, G.ne_i, G.eq_s, G.ne_s, G.eq_b, G.ne_b, G.max_i, G.min_i, G.len_t, G.len_l, G.tr_b, G.tr_i, G.tr_n, G.tr_t, G.tr_l, G.isN_n, G.isN_t, G.isN_l, G.isN_i, G.isN_s, G.isN_b, G.noN_n, G.noN_t, G.noN_l, G.noN_i, G.noN_s, G.noN_b, G.tupl_l, G.tupl_t, G.list_t, G.list_l, G.int_i, G.neg_i, G.abs_i, G.ite_b, G.and_b, G.or_b, G.not_b, G.part_i, G.un2, G.un3, G.fl_nx, G.fl_ret, G.slc_t, G.slc_l, G.it_seqT, G.it_seqL, G.it_revT, G.it_revL, G.it_enumT, G.it_enumL, G.it_zipT, G.it_zipL, G.cut_mid, G.cut_hi, G.cut_lo, G.cut_none, if_true, if_false, Bool.false_eq_true, Bool.not_true, Bool.not_false, reduceIte, decide_eq_true_eq, decide_true, decide_false, G.bind_id, mulL (a := t) (b := 31) (by decide), mod_i (a := t * 31 + (y.natAbs : Nat)) (b := 2147483647) (by decide)])
  rw [h1, bind_ok', list_scr, bind_ok']
  obtain ⟨t, ht, e⟩ := h2
  rw [e]
  exact zw_ok.mpr ⟨ns, 0, 0, t, by decide, ht, rfl⟩
theorem mod_rng (a m : Int) : ∃ v : Nat, a % max m 1 = v ∧ (v : Int) < max m 1 := by
  have h1 : 0 < max m 1 := by omega
  have h2 := Int.emod_nonneg a (by omega : max m 1 ≠ 0)
  have h3 := Int.emod_lt_of_pos a h1
  exact ⟨(a % max m 1).toNat, by omega, by omega⟩
def DrQ (m : Int) (r : D × List D) : Prop := ∃ v : Nat, r.1 = .int v ∧ (v : Int) < max m 1 ∧ Tp r.2
theorem draw_ok {t : List D} (h : Tp t) {m : Int} (hm : m < 1000000000) : Zw (f_law_draw t (.int m)) (DrQ m) := by
  obtain ⟨xs, p, b, s, hb, hs, rfl⟩ := h
  unfold f_law_draw
  have i2 : ∀ {a b c d : D}, z2 .ix (.lst [a, b, c, d]) (.int 2) = .ok c := rfl
  have i1 : ∀ {a b c d : D}, z2 .ix (.lst [a, b, c, d]) (.int 1) = .ok b := rfl
  have i0 : ∀ {a b c d : D}, z2 .ix (.lst [a, b, c, d]) (.int 0) = .ok a := rfl
  have i3 : ∀ {a b c d : D}, z2 .ix (.lst [a, b, c, d]) (.int 3) = .ok d := rfl
  have s1 : ∀ {a b c d e : D}, zst [a, b, c, d] (.int 1) e = .ok [a, e, c, d] := rfl
  have s2 : ∀ {a b c d e : D}, zst [a, b, c, d] (.int 2) e = .ok [a, b, e, d] := rfl
  have s3 : ∀ {a b c d e : D}, zst [a, b, c, d] (.int 3) e = .ok [a, b, c, e] := rfl
  have mm : ∀ a : Int, z2 .mod (.int a) (.int (max m 1)) = .ok (.int (a % max m 1)) := fun a => mod_i (by omega)
  have md : ∀ a : Int, z2 .fdiv (.int a) (.int (max m 2)) = .ok (.int (a / max m 2)) := fun a => fdiv_i (by omega) (by omega)
  have m1 : ∀ a : Int, z2 .mod (.int a) (.int 2147483647) = .ok (.int (a % 2147483647)) := fun a => mod_i (by decide)
  have m2 : ∀ a : Int, z2 .mod (.int a) (.int 2147483629) = .ok (.int (a % 2147483629)) := fun a => mod_i (by decide)
  have x1 : ∀ a : Int, z2 .mul (.int a) (.int 48271) = .ok (.int (a * 48271)) := fun a => mulL (by decide)
  have x2 : ∀ a : Int, z2 .mul (.int a) (.int 69621) = .ok (.int (a * 69621)) := fun a => mulL (by decide)
  have tail : ∀ (b s : Int) (p : Nat), 0 ≤ b → 0 ≤ s → DrQ m (.int (b % max m 1), [.lst (xs.map .int), .int p, .int (b / max m 2), .int s]) := by
    intro b s p hb hs
    obtain ⟨v, e, hv⟩ := mod_rng b m
    exact ⟨v, by rw [e], hv, xs, p, _, s, Int.ediv_nonneg hb (by omega), hs, rfl⟩
  rw [i2, bind_ok', eq_i, bind_ok', ite_b]
  split
  · rename_i hb0
    have hb0 : b = 0 := of_decide_eq_true hb0
    subst hb0
    rw [i1, bind_ok', i0, bind_ok', len_l, bind_ok', List.length_map, lt_i, bind_ok', ite_b]
    refine zc (P := fun s19 : List D × D => ∃ s x : Int, 0 ≤ s ∧ 0 ≤ x ∧ s19 = ([.lst (xs.map .int), .int p, .int 0, .int s], .int x)) ?_ ?_
    · split
      · rename_i hp
        have hp' : p < xs.length := by have := of_decide_eq_true hp; omega
        have e : z2 .ix (.lst (xs.map .int)) (.int p) = .ok (.int xs[p]) := ix_l (by simp [hp'])
        rw [bind_ok', e, bind_ok', int_i, bind_ok', abs_i, bind_ok']
        exact zw_ok.mpr ⟨s, _, hs, by omega, rfl⟩
      · rw [i3, bind_ok', x1, bind_ok', add_i, bind_ok', add_i, bind_ok', int_i, bind_ok', m1, bind_ok', s3, bind_ok', i3, bind_ok']
        exact zw_ok.mpr ⟨_, _, Int.emod_nonneg _ (by decide), Int.emod_nonneg _ (by decide), rfl⟩
    · rintro _ ⟨s, x, hs, hx, rfl⟩
      have hp : ((p : Int) + 1) = ((p + 1 : Nat) : Int) := by omega
      simp -implicitDefEqProofs only [G.zw_ok, G.zw_no, G.zw_exc, G.bind_ok', G.nox_ok, G.add_i, G.sub_i, G.lt_i, G.le_i, G.gt_i, G.ge_i, G.eq_i, G.ne_i, G.eq_s, G.ne_s, G.eq_b, G.ne_b, G.max_i, G.min_i, G.len_t, G.len_l, G.tr_b, G.tr_i, G.tr_n, G.tr_t, G.tr_l, G.isN_n, G.isN_t, G.isN_l, G.isN_i, G.isN_s, G.isN_b, G.noN_n, G.noN_t, G.noN_l, G.noN_i, G.noN_s, G.noN_b, G.tupl_l, G.tupl_t, G.list_t, G.list_l, G.int_i, G.neg_i, G.abs_i, G.ite_b, G.and_b, G.or_b, G.not_b, G.part_i, G.un2, G.un3, G.fl_nx, G.fl_ret, G.slc_t, G.slc_l, G.it_seqT, G.it_seqL, G.it_revT, G.it_revL, G.it_enumT, G.it_enumL, G.it_zipT, G.it_zipL, G.cut_mid, G.cut_hi, G.cut_lo, G.cut_none, if_true, if_false, Bool.false_eq_true, Bool.not_true, Bool.not_false, reduceIte, decide_eq_true_eq, decide_true, decide_false, G.bind_id, s1, s2, i2, pow18, x1, x2, m1, m2, mm, md]
      split
      · obtain ⟨v, e, hv⟩ := mod_rng ((x * 48271 + p * 69621 + 5) % 2147483647 * 69621 % 2147483629) m
        exact zw_ok.mpr ⟨v, by rw [e], hv, xs, p + 1, 0, s, by decide, hs, by rw [hp]⟩
      · rw [hp]
        exact zw_ok.mpr (tail x s (p + 1) hx hs)
  · simp -implicitDefEqProofs only [G.zw_ok, G.zw_no, G.zw_exc, G.bind_ok', G.nox_ok, G.add_i, G.sub_i, G.lt_i, G.le_i, G.gt_i, G.ge_i, G.eq_i, G.ne_i, G.eq_s, G.ne_s, G.eq_b, G.ne_b, G.max_i, G.min_i, G.len_t, G.len_l, G.tr_b, G.tr_i, G.tr_n, G.tr_t, G.tr_l, G.isN_n, G.isN_t, G.isN_l, G.isN_i, G.isN_s, G.isN_b, G.noN_n, G.noN_t, G.noN_l, G.noN_i, G.noN_s, G.noN_b, G.tupl_l, G.tupl_t, G.list_t, G.list_l, G.int_i, G.neg_i, G.abs_i, G.ite_b, G.and_b, G.or_b, G.not_b, G.part_i, G.un2, G.un3, G.fl_nx, G.fl_ret, G.slc_t, G.slc_l, G.it_seqT, G.it_seqL, G.it_revT, G.it_revL, G.it_enumT, G.it_enumL, G.it_zipT, G.it_zipL, G.cut_mid, G.cut_hi, G.cut_lo, G.cut_none, if_true, if_false, Bool.false_eq_true, Bool.not_true, Bool.not_false, reduceIte, decide_eq_true_eq, decide_true, decide_false, G.bind_id, i2, s2, mm, md]
    exact tail b s p hb hs
/-- a draw, as a step -/
theorem zd {α : Type} {Q : α → Prop} {t : List D} {m : Int} {f : D × List D → Z α} (ht : Tp t) (h0 : 0 < m) (h1 : m < 1000000000) (k : ∀ (v : Nat) (t' : List D), (v : Int) < m → Tp t' → Zw (f (.int v, t')) Q) : Zw ((Z.nox (f_law_draw t (.int m))).bind f) Q := by
  refine zcn (draw_ok ht h1) fun r hr => ?_
  obtain ⟨v, e, hv, ht'⟩ := hr
  obtain ⟨a, b⟩ := r
  cases e
  exact k v b (by omega) ht'
/-! ### sameness -/
/-- data that equals itself -/
def plain : Nat → D → Prop
  | _, .non => True
  | _, .bl _ => True
  | _, .int _ => True
  | _, .str _ => True
  | n + 1, .tup ds => ds.length ≤ SZ ∧ ∀ d ∈ ds, plain n d
  | _, _ => False
theorem isi0_t {xs : List D} : z1 (.isi 0) (.tup xs) = .ok (.bl true) := id rfl
theorem isi0_b {b : Bool} : z1 (.isi 0) (.bl b) = .ok (.bl false) := id rfl
theorem isi0_i {b : Int} : z1 (.isi 0) (.int b) = .ok (.bl false) := id rfl
theorem isi0_s {b : Str} : z1 (.isi 0) (.str b) = .ok (.bl false) := id rfl
theorem isi1_b {b : Bool} : z1 (.isi 1) (.bl b) = .ok (.bl true) := id rfl
theorem isi1_i {b : Int} : z1 (.isi 1) (.int b) = .ok (.bl false) := id rfl
theorem isi1_s {b : Str} : z1 (.isi 1) (.str b) = .ok (.bl false) := id rfl
theorem isi2_i {b : Int} : z1 (.isi 2) (.int b) = .ok (.bl false) := id rfl
theorem isi2_s {b : Str} : z1 (.isi 2) (.str b) = .ok (.bl true) := id rfl
theorem isi3_i {b : Int} : z1 (.isi 3) (.int b) = .ok (.bl true) := id rfl
theorem same_refl : ∀ (n : Nat) (d : D), plain n d → f_law_same (n + 1) d d = .ok (.bl true) := by
  intro n
  induction n with
  | zero =>
    intro d hd
    cases d with
    | tup ds => exact hd.elim
    | lst ds => exact hd.elim
    | scr ds => exact hd.elim
    | dct ks ds => exact hd.elim
    | non => rw [f_law_same]; simp -implicitDefEqProofs only [G.zw_ok, G.zw_no, G.zw_exc, G.bind_ok', G.nox_ok, G.add_i, G.sub_i, G.lt_i, G.le_i, G.gt_i, G.ge_i, G.eq_i, G.ne_i, G.eq_s, G.ne_s, G.eq_b, G.ne_b, G.max_i, G.min_i, G.len_t, G.len_l, G.tr_b, G.tr_i, G.tr_n, G.tr_t, G.tr_l, G.isN_n, G.isN_t, G.isN_l, G.isN_i, G.isN_s, G.isN_b, G.noN_n, G.noN_t, G.noN_l, G.noN_i, G.noN_s, G.noN_b, G.tupl_l, G.tupl_t, G.list_t, G.list_l, G.int_i, G.neg_i, G.abs_i, G.ite_b, G.and_b, G.or_b, G.not_b, G.part_i, G.un2, G.un3, G.fl_nx, G.fl_ret, G.slc_t, G.slc_l, G.it_seqT, G.it_seqL, G.it_revT, G.it_revL, G.it_enumT, G.it_enumL, G.it_zipT, G.it_zipL, G.cut_mid, G.cut_hi, G.cut_lo, G.cut_none, if_true, if_false, Bool.false_eq_true, Bool.not_true, Bool.not_false, reduceIte, decide_eq_true_eq, decide_true, decide_false, G.bind_id]
    | bl b => rw [f_law_same]; simp -implicitDefEqProofs only [G.zw_ok, G.zw_no, G.zw_exc, G.bind_ok', G.nox_ok, G.add_i, G.sub_i, G.lt_i, G.le_i, G.gt_i, G.ge_i, G.eq_i, G.ne_i, G.eq_s, G.ne_s, G.eq_b, G.ne_b, G.max_i, G.min_i, G.len_t, G.len_l, G.tr_b, G.tr_i, G.tr_n, G.tr_t, G.tr_l, G.isN_n, G.isN_t, G.isN_l, G.isN_i, G.isN_s, G.isN_b, G.noN_n, G.noN_t, G.noN_l, G.noN_i, G.noN_s, G.noN_b, G.tupl_l, G.tupl_t, G.list_t, G.list_l, G.int_i, G.neg_i, G.abs_i, G.ite_b, G.and_b, G.or_b, G.not_b, G.part_i, G.un2, G.un3, G.fl_nx, G.fl_ret, G.slc_t, G.slc_l, G.it_seqT, G.it_seqL, G.it_revT, G.it_revL, G.it_enumT, G.it_enumL, G.it_zipT, G.it_zipL, G.cut_mid, G.cut_hi, G.cut_lo, G.cut_none, if_true, if_false, Bool.false_eq_true, Bool.not_true, Bool.not_false, reduceIte, decide_eq_true_eq, decide_true, decide_false, G.bind_id, isi0_b, isi1_b]
    | int i => rw [f_law_same]; simp -implicitDefEqProofs only [G.zw_ok, G.zw_no, G.zw_exc, G.bind_ok', G.nox_ok, G.add_i, G.sub_i, G.lt_i, G.le_i, G.gt_i, G.ge_i, G.eq_i, G.ne_i, G.eq_s, G.ne_s, G.eq_b, G.ne_b, G.max_i, G.min_i, G.len_t, G.len_l, G.tr_b, G.tr_i, G.tr_n, G.tr_t, G.tr_l, G.isN_n, G.isN_t, G.isN_l, G.isN_i, G.isN_s, G.isN_b, G.noN_n, G.noN_t, G.noN_l, G.noN_i, G.noN_s, G.noN_b, G.tupl_l, G.tupl_t, G.list_t, G.list_l, G.int_i, G.neg_i, G.abs_i, G.ite_b, G.and_b, G.or_b, G.not_b, G.part_i, G.un2, G.un3, G.fl_nx, G.fl_ret, G.slc_t, G.slc_l, G.it_seqT, G.it_seqL, G.it_revT, G.it_revL, G.it_enumT, G.it_enumL, G.it_zipT, G.it_zipL, G.cut_mid, G.cut_hi, G.cut_lo, G.cut_none, if_true, if_false, Bool.false_eq_true, Bool.not_true, Bool.not_false, reduceIte, decide_eq_true_eq, decide_true, decide_false, G.bind_id, isi0_i, isi1_i, isi2_i, isi3_i]
    | str z => rw [f_law_same]; simp -implicitDefEqProofs only [G.zw_ok, G.zw_no, G.zw_exc, G.bind_ok', G.nox_ok, G.add_i, G.sub_i, G.lt_i, G.le_i, G.gt_i, G.ge_i, G.eq_i, G.ne_i, G.eq_s, G.ne_s, G.eq_b, G.ne_b, G.max_i, G.min_i, G.len_t, G.len_l, G.tr_b, G.tr_i, G.tr_n, G.tr_t, G.tr_l, G.isN_n, G.isN_t, G.isN_l, G.isN_i, G.isN_s, G.isN_b, G.noN_n, G.noN_t, G.noN_l, G.noN_i, G.noN_s, G.noN_b, G.tupl_l, G.tupl_t, G.list_t, G.list_l, G.int_i, G.neg_i, G.abs_i, G.ite_b, G.and_b, G.or_b, G.not_b, G.part_i, G.un2, G.un3, G.fl_nx, G.fl_ret, G.slc_t, G.slc_l, G.it_seqT, G.it_seqL, G.it_revT, G.it_revL, G.it_enumT, G.it_enumL, G.it_zipT, G.it_zipL, G.cut_mid, G.cut_hi, G.cut_lo, G.cut_none, if_true, if_false, Bool.false_eq_true, Bool.not_true, Bool.not_false, reduceIte, decide_eq_true_eq, decide_true, decide_false, G.bind_id, isi0_s, isi1_s, isi2_s]
  | succ n ih =>
    intro d hd
    cases d with
    | lst ds => exact hd.elim
    | scr ds => exact hd.elim
    | dct ks ds => exact hd.elim
    | non => rw [f_law_same]; simp -implicitDefEqProofs only [G.zw_ok, G.zw_no, G.zw_exc, G.bind_ok', G.nox_ok, G.add_i, G.sub_i, G.lt_i, G.le_i, G.gt_i, G.ge_i, G.eq_i, G.ne_i, G.eq_s, G.ne_s, G.eq_b, G.ne_b, G.max_i, G.min_i, G.len_t, G.len_l, G.tr_b, G.tr_i, G.tr_n, G.tr_t, G.tr_l, G.isN_n, G.isN_t, G.isN_l, G.isN_i, G.isN_s, G.isN_b, G.noN_n, G.noN_t, G.noN_l, G.noN_i, G.noN_s, G.noN_b, G.tupl_l, G.tupl_t, G.list_t, G.list_l, G.int_i, G.neg_i, G.abs_i, G.ite_b, G.and_b, G.or_b, G.not_b, G.part_i, G.un2, G.un3, G.fl_nx, G.fl_ret, G.slc_t, G.slc_l, G.it_seqT, G.it_seqL, G.it_revT, G.it_revL, G.it_enumT, G.it_enumL, G.it_zipT, G.it_zipL, G.cut_mid, G.cut_hi, G.cut_lo, G.cut_none, if_true, if_false, Bool.false_eq_true, Bool.not_true, Bool.not_false, reduceIte, decide_eq_true_eq, decide_true, decide_false, G.bind_id]
    | bl b => rw [f_law_same]; simp -implicitDefEqProofs only [G.zw_ok, G.zw_no, G.zw_exc, G.bind_ok', G.nox_ok, G.add_i, G.sub_i, G.lt_i, G.le_i, G.gt_i, G.ge_i, G.eq_i, G.ne_i, G.eq_s, G.ne_s, G.eq_b, G.ne_b, G.max_i, G.min_i, G.len_t, G.len_l, G.tr_b, G.tr_i, G.tr_n, G.tr_t, G.tr_l, G.isN_n, G.isN_t, G.isN_l, G.isN_i, G.isN_s, G.isN_b, G.noN_n, G.noN_t, G.noN_l, G.noN_i, G.noN_s, G.noN_b, G.tupl_l, G.tupl_t, G.list_t, G.list_l, G.int_i, G.neg_i, G.abs_i, G.ite_b, G.and_b, G.or_b, G.not_b, G.part_i, G.un2, G.un3, G.fl_nx, G.fl_ret, G.slc_t, G.slc_l, G.it_seqT, G.it_seqL, G.it_revT, G.it_revL, G.it_enumT, G.it_enumL, G.it_zipT, G.it_zipL, G.cut_mid, G.cut_hi, G.cut_lo, G.cut_none, if_true, if_false, Bool.false_eq_true, Bool.not_true, Bool.not_false, reduceIte, decide_eq_true_eq, decide_true, decide_false, G.bind_id, isi0_b, isi1_b]
    | int i => rw [f_law_same]; simp -implicitDefEqProofs only [G.zw_ok, G.zw_no, G.zw_exc, G.bind_ok', G.nox_ok, G.add_i, G.sub_i, G.lt_i, G.le_i, G.gt_i, G.ge_i, G.eq_i, G.ne_i, G.eq_s, G.ne_s, G.eq_b, G.ne_b, G.max_i, G.min_i, G.len_t, G.len_l, G.tr_b, G.tr_i, G.tr_n, G.tr_t, G.tr_l, G.isN_n, G.isN_t, G.isN_l, G.isN_i, G.isN_s, G.isN_b, G.noN_n, G.noN_t, G.noN_l, G.noN_i, G.noN_s, G.noN_b, G.tupl_l, G.tupl_t, G.list_t, G.list_l, G.int_i, G.neg_i, G.abs_i, G.ite_b, G.and_b, G.or_b, G.not_b, G.part_i, G.un2, G.un3, G.fl_nx, G.fl_ret, G.slc_t, G.slc_l, G.it_seqT, G.it_seqL, G.it_revT, G.it_revL, G.it_enumT, G.it_enumL, G.it_zipT, G.it_zipL, G.cut_mid, G.cut_hi, G.cut_lo, G.cut_none, if_true, if_false, Bool.false_eq_true, Bool.not_true, Bool.not_false, reduceIte, decide_eq_true_eq, decide_true, decide_false, G.bind_id, isi0_i, isi1_i, isi2_i, isi3_i]
    | str z => rw [f_law_same]; simp -implicitDefEqProofs only [G.zw_ok, G.zw_no, G.zw_exc, G.bind_ok', G.nox_ok, G.add_i, G.sub_i, G.lt_i, G.le_i, G.gt_i, G.ge_i, G.eq_i, G.ne_i, G.eq_s, G.ne_s, G.eq_b, G.ne_b, G.max_i, G.min_i, G.len_t, G.len_l, G.tr_b, G.tr_i, G.tr_n, G.tr_t, G.tr_l, G.isN_n, G.isN_t, G.isN_l, G.isN_i, G.isN_s, G.isN_b, G.noN_n, G.noN_t, G.noN_l, G.noN_i, G.noN_s, G.noN_b, G.tupl_l, G.tupl_t, G.list_t, G.list_l, G.int_i, G.neg_i, G.abs_i, G.ite_b, G.and_b, G.or_b, G.not_b, G.part_i, G.un2, G.un3, G.fl_nx, G.fl_ret, G.slc_t, G.slc_l, G.it_seqT, G.it_seqL, G.it_revT, G.it_revL, G.it_enumT, G.it_enumL, G.it_zipT, G.it_zipL, G.cut_mid, G.cut_hi, G.cut_lo, G.cut_none, if_true, if_false, Bool.false_eq_true, Bool.not_true, Bool.not_false, reduceIte, decide_eq_true_eq, decide_true, decide_false, G.bind_id, isi0_s, isi1_s, isi2_s]
    | tup xs =>
      obtain ⟨hz, hx⟩ := hd
      rw [f_law_same]
      simp -implicitDefEqProofs only [G.zw_ok, G.zw_no, G.zw_exc, G.bind_ok', G.nox_ok, G.add_i, G.sub_i, G.lt_i, G.le_i, G.gt_i, G.ge_i, G.eq_i, G.ne_i, G.eq_s, G.ne_s, G.eq_b, G.ne_b, G.max_i, G.min_i, G.len_t, G.len_l, G.tr_b, G.tr_i, G.tr_n, G.tr_t, G.tr_l, G.isN_n, G.isN_t, G.isN_l, G.isN_i, G.isN_s, G.isN_b, G.noN_n, G.noN_t, G.noN_l, G.noN_i, G.noN_s, G.noN_b, G.tupl_l, G.tupl_t, G.list_t, G.list_l, G.int_i, G.neg_i, G.abs_i, G.ite_b, G.and_b, G.or_b, G.not_b, G.part_i, G.un2, G.un3, G.fl_nx, G.fl_ret, G.slc_t, G.slc_l, G.it_seqT, G.it_seqL, G.it_revT, G.it_revL, G.it_enumT, G.it_enumL, G.it_zipT, G.it_zipL, G.cut_mid, G.cut_hi, G.cut_lo, G.cut_none, if_true, if_false, Bool.false_eq_true, Bool.not_true, Bool.not_false, reduceIte, decide_eq_true_eq, decide_true, decide_false, G.bind_id, isi0_t, it_rngN hz]
      rw [for_all (fun k : Nat => D.int k) (fun _ => true) (D.bl false)]
      · simp [bind_ok', fl_nx]
      · intro k hk
        have hk' : k < xs.length := List.mem_range.mp hk
        have e : z2 .ix (.tup xs) (.int k) = .ok xs[k] := ix_t (by simp [hk'])
        simp -implicitDefEqProofs only [G.zw_ok, G.zw_no, G.zw_exc, G.bind_ok', G.nox_ok, G.add_i, G.sub_i, G.lt_i, G.le_i, G.gt_i, G.ge_i, G.eq_i, G.ne_i, G.eq_s, G.ne_s, G.eq_b, G.ne_b, G.max_i, G.min_i, G.len_t, G.len_l, G.tr_b, G.tr_i, G.tr_n, G.tr_t, G.tr_l, G.isN_n, G.isN_t, G.isN_l, G.isN_i, G.isN_s, G.isN_b, G.noN_n, G.noN_t, G.noN_l, G.noN_i, G.noN_s, G.noN_b, G.tupl_l, G.tupl_t, G.list_t, G.list_l, G.int_i, G.neg_i, G.abs_i, G.ite_b, G.and_b, G.or_b, G.not_b, G.part_i, G.un2, G.un3, G.fl_nx, G.fl_ret, G.slc_t, G.slc_l, G.it_seqT, G.it_seqL, G.it_revT, G.it_revL, G.it_enumT, G.it_enumL, G.it_zipT, G.it_zipL, G.cut_mid, G.cut_hi, G.cut_lo, G.cut_none, if_true, if_false, Bool.false_eq_true, Bool.not_true, Bool.not_false, reduceIte, decide_eq_true_eq, decide_true, decide_false, G.bind_id, e, ih _ (hx _ (List.getElem_mem hk'))]
end G
namespace G
open PySem L2
/-! ### texts and edits -/
abbrev Tx := List Str
def tx (t : Tx) : D := .tup (t.map .str)
structure Ed where
  p : Nat
  r : Tx
  i : Tx
def ed (e : Ed) : D := .tup [.int e.p, tx e.r, tx e.i]
def Ed.e (e : Ed) : Nat := e.p + e.r.length
/-! #### origins and results -/
inductive Or where
  | kept (j : Nat) | ins (e k : Nat)
end G
namespace G
open PySem L2
end G
namespace G
open PySem L2
/-! ### what the law draws: menus, texts, edits -/
theorem enc_of {β : Type} {enc : β → D} {P : β → Prop} : ∀ {ds : List D}, (∀ d ∈ ds, ∃ b, d = enc b ∧ P b) → ∃ bs : List β, ds = bs.map enc ∧ ∀ b ∈ bs, P b
  | [], _ => ⟨[], rfl, by simp⟩
  | d :: ds, h => by
    obtain ⟨b, rfl, hb⟩ := h d (List.mem_cons_self ..)
    obtain ⟨bs, rfl, h2⟩ := enc_of (ds := ds) fun d hd => h d (List.mem_cons_of_mem _ hd)
    exact ⟨b :: bs, rfl, fun x hx => (List.mem_cons.mp hx).elim (fun e => e ▸ hb) (h2 x)⟩
theorem zpick {α : Type} {Q : α → Prop} {f : D → Z α} {xs : List D} {v : Nat} (ns : List Int) (hx : xs = ns.map .int) (hv : v < ns.length) (k : ∀ n ∈ ns, Zw (f (.int n)) Q) : Zw ((z2 .ix (.lst xs) (.int v)).bind f) Q := by
  subst hx
  rw [ix_l (d := .int ns[v]) (by simp [hv]), bind_ok']
  exact k _ (List.getElem_mem hv)
abbrev signs : Str := " !\"#$&'()*+,-./0123456789:;<=>?@ABCDEFGHIJKLMNOPQRSTUVWXYZ[\\]^_`abcdefghijklmnopqrstuvwxyz{|}~"
/-! edits -/
end G
namespace G
/-! ### sums over the nodes of a tree -/
def sm : Nat → (Nat → Int) → Int
  | 0, _ => 0
  | n + 1, f => sm n f + f n
theorem sm_congr {n : Nat} {f g : Nat → Int} (h : ∀ k, k < n → f k = g k) : sm n f = sm n g := by
  induction n with
  | zero => rfl
  | succ n ih => simp only [sm]; rw [ih fun k hk => h k (by omega), h n (by omega)]
theorem sm_add {n : Nat} {f g : Nat → Int} : sm n (fun k => f k + g k) = sm n f + sm n g := by
  induction n with
  | zero => rfl
  | succ n ih => simp only [sm]; omega
/-! trees -/
/-- the parent in the list -/
def ga (T : List Nat) (k : Nat) : Nat := T.getD k 0
def gi (T : List Int) (k : Nat) : Int := T.getD k 0
/-- from a node to the root -/
def pth (T : List Nat) : Nat → Nat → List Nat
  | 0, k => [k]
  | f + 1, k => if 0 < k then k :: pth T f (ga T (k - 1)) else [k]
def U (T : List Nat) (n v k : Nat) : Prop := v ∈ pth T n k
instance {T n v k} : Decidable (U T n v k) := inferInstanceAs (Decidable (v ∈ pth T n k))
/-- what a node's children have -/
def chs (T : List Nat) (v : Nat) (f : Nat → Int) : Int := sm T.length fun j => if ga T j = v then f (j + 1) else 0
def sums (T : List Nat) (o : Nat → Int) (v : Nat) : Int := sm (T.length + 1) fun k => if U T T.length v k then o k else 0
end G
namespace G
open PySem L2
end G
namespace G
open PySem L2
/-! ### sameness, as the other laws have it -/
/-! ### numbers in rows -/
def nl (ks : List Nat) : List D := ks.map fun k : Nat => .int k
def tr (T : List Nat) : D := .tup (nl T)
theorem nl_len {T : List Nat} : (nl T).length = T.length := by simp [nl]
theorem nl_at {T : List Nat} {k : Nat} (h : k < T.length) : (nl T)[k]? = some (.int (ga T k)) := by simp [nl, ga, List.getD_eq_getElem?_getD, h]
theorem ix_tr {T : List Nat} {k : Nat} (h : k < T.length) : z2 .ix (tr T) (.int k) = .ok (.int (ga T k)) := ix_t (nl_at h)
theorem len_tr {T : List Nat} : z1 .len (tr T) = .ok (.int T.length) := by unfold tr; rw [len_t, nl_len]
/-- a loop that counts -/
theorem zw_foldR {σ : Type} {f : D → σ → Z σ} (enc : Nat → D) (J : Nat → σ → Prop) : ∀ (m a : Nat) (s : σ), J a s → (∀ i s, a ≤ i → i < a + m → J i s → Zw (f (enc i) s) (J (i + 1))) → Zw (foldZ f ((List.range' a m).map enc) s) (J (a + m))
  | 0, a, s, i, h => zw_ok.mpr i
  | m + 1, a, s, i, h => by
    rw [List.range'_succ, List.map_cons]
    simp only [foldZ]
    refine zc (h a s (Nat.le_refl _) (by omega) i) fun s' i' => ?_
    have := zw_foldR enc J m (a + 1) s' i' fun j s h1 h2 => h j s (by omega) (by omega)
    rwa [show a + 1 + m = a + (m + 1) by omega] at this
theorem zw_foldN {σ : Type} {f : D → σ → Z σ} (enc : Nat → D) (J : Nat → σ → Prop) {n : Nat} {s : σ} (h0 : J 0 s) (h : ∀ i s, i < n → J i s → Zw (f (enc i) s) (J (i + 1))) : Zw (foldZ f ((List.range n).map enc) s) (J n) := by
  have := zw_foldR enc J n 0 s h0 fun j s h1 h2 => h j s (by omega)
  rw [Nat.zero_add] at this
  rwa [List.range_eq_range']
/-! ### trees -/
theorem in_nl {v : Nat} {ks : List Nat} : z2 .inn (.int v) (.lst (nl ks)) = .ok (.bl (decide (v ∈ ks))) := by
  unfold z2 p2 pIn
  have h1 : (flatD (.int v) && (nl ks).all flatD) = true := by
    simp [nl, flatD]
  dsimp only
  rw [if_pos h1]
  simp only [zval, Bool.false_eq_true, if_false]
  congr 2
  rw [Bool.eq_iff_iff]
  simp only [nl, List.any_map, List.any_eq_true, Function.comp, eqF, decide_eq_true_eq, beq_iff_eq]
  constructor
  · rintro ⟨x, hx, e⟩
    have : x = v := by omega
    exact this ▸ hx
  · intro h
    exact ⟨v, h, rfl⟩
end G
namespace G
open PySem L2
/-! a table -/
def pr (p : Int × Int) : D := .tup [.int p.1, .int p.2]
def tb (R : List (Int × Int)) : D := .tup (R.map pr)
def fs (R : List (Int × Int)) : List Int := R.map (·.1)
def sn (R : List (Int × Int)) : List Int := R.map (·.2)
/-! ### what the law draws -/
end G
namespace G
/-! ### shortfalls -/
/-- what settling leaves -/
def Set (T : List Nat) (c f w z : Nat → Int) : Prop := ∀ v, v ≤ T.length → w v = c v + chs T v z ∧ z v = max (w v - f v) 0
def inD (T : List Nat) (z : Nat → Int) (k : Nat) : Prop := ∀ x ∈ pth T T.length k, 0 < z x
instance {T z k} : Decidable (inD T z k) := inferInstanceAs (Decidable (∀ x ∈ pth T T.length k, 0 < z x))
end G
namespace G
open PySem L2
end G
namespace G
open PySem L2
/-! the program -/
end G
namespace G
/-! ### payments one after another -/
theorem chs_add {T : List Nat} {x : Nat} {f g : Nat → Int} : chs T x (fun y => f y + g y) = chs T x f + chs T x g := by
  unfold chs
  rw [← sm_add]
  refine sm_congr fun j _ => ?_
  dsimp only
  split <;> omega
/-- claims after claims -/
theorem Set.comp {T : List Nat} {c c' f w z w' z' l : Nat → Int} (h : Set T c f w z) (h' : Set T c' l w' z') (hl : ∀ x, x ≤ T.length → l x = max (f x - w x) 0) (hn : ∀ x, x ≤ T.length → 0 ≤ w' x) : Set T (fun x => c x + c' x) f (fun x => w x + w' x) (fun x => z x + z' x) := by
  intro v hv
  have a := h v hv
  have b := h' v hv
  have d := hl v hv
  have e := hn v hv
  refine ⟨?_, ?_⟩
  · dsimp only
    rw [chs_add]; omega
  · dsimp only
    omega
/-- what comes to a node of a path -/
def arr (L : Nat → Int) : List Nat → Int → Nat → Int
  | [], _, _ => 0
  | y :: ys, m, x => if x = y then m else arr L ys (max (m - L y) 0) x
end G
namespace G
open PySem L2
end G
namespace G
open PySem L2
end G
namespace G
open PySem L2
def tk (T : List Nat) (L : List Int) (p : Nat × Int) : List Int := (List.range (T.length + 1)).map fun x => max (gi L x - arr (gi L) (pth T T.length p.1) p.2 x) 0
end G
namespace G
/-! ### seats and changes -/
abbrev Ho := Option Nat
abbrev Ch := List Ho
abbrev Se := List Ch
abbrev Cg := Nat × Nat × Ho
def hold (S : Se) (k : Nat) : Ch := S.getD k []
def seat (l : Ch) (j : Nat) : Ho := l.getD j none
def ex (S : Se) (c : Cg) : Bool := decide (c.2.1 < (hold S c.1).length)
def put (S : Se) (c : Cg) : Se := S.set c.1 ((hold S c.1).set c.2.1 c.2.2)
def okc (m : Nat) (l : Ch) (c : Cg) : Bool := decide (c.2.1 < l.length) && (match c.2.2 with
  | none => (seat l c.2.1).isSome
  | some x => (seat l c.2.1).isNone && (decide (x < m) && !(decide (some x ∈ l))))
def valid (m : Nat) (S : Se) (c : Cg) : Bool := okc m (hold S c.1) c
theorem hold_put {S : Se} {c : Cg} {k : Nat} : hold (put S c) k = if c.1 = k then (hold S k).set c.2.1 c.2.2 else hold S k := by
  unfold put
  by_cases e : c.1 = k
  · subst e
    rw [if_pos rfl]
    by_cases h : c.1 < S.length
    · simp [hold, List.getD_eq_getElem?_getD, List.getElem?_set, h]
    · simp [hold, List.getD_eq_getElem?_getD, List.getElem?_set, h, List.getElem?_eq_none (by omega : S.length ≤ c.1)]
  · rw [if_neg e]
    simp [hold, List.getD_eq_getElem?_getD, List.getElem?_set, e]
theorem put_len {S : Se} {c : Cg} : (put S c).length = S.length := by simp [put]
def run (m : Nat) : Se → List Cg → Se × Option Nat
  | S, [] => (S, none)
  | S, c :: cs => if valid m S c = true then ((run m (put S c) cs).1, (run m (put S c) cs).2.map (· + 1)) else (S, some 0)
def own (k : Nat) (cs : List Cg) : List Cg := cs.filter fun c => decide (c.1 = k)
def pl (k : Nat) : List Cg → List Nat
  | [] => []
  | c :: cs => if c.1 = k then 0 :: (pl k cs).map (· + 1) else (pl k cs).map (· + 1)
/-- the new holders of a seat -/
def ys (cs : List Cg) (k j : Nat) : List Ho := cs.filterMap fun c => if c.1 = k ∧ c.2.1 = j then some c.2.2 else none
end G
namespace G
open PySem L2
/-- _law_holders(tape, top) -/
def f_law_holders (tape : List D) (top : D) : Z (D × List D) :=
  (Z.nox (f_law_draw tape (D.int 12))).bind fun p1 =>
  (z2 .add (D.int 1) p1.1).bind fun r2 =>
  (itD .rng [r2]).bind fun xs6 =>
  (foldZ (fun d5 (s3 : List D × List D) =>
  (Z.nox (f_law_draw s3.1 (D.int 4))).bind fun p7 =>
    (z2 .eq p7.1 (D.int 0)).bind fun r8 =>
    zite r8 (
    (zapp s3.2 D.non).bind fun l9 =>
      .ok (p7.2, l9)) (
    (Z.nox (f_law_draw p7.2 top)).bind fun p10 =>
      (zapp s3.2 p10.1).bind fun l11 =>
      .ok (p10.2, l11))) xs6 (p1.2, [])).bind fun s4 =>
  (z1 .tupl (D.lst s4.2)).bind fun r12 =>
  .ok (r12, s4.1)
/-- _law_seats(tape, most) -/
def f_law_seats (tape : List D) (most : D) : Z (D × List D) :=
  (Z.nox (f_law_draw tape (D.int 4))).bind fun p1 =>
  (z2 .ix (D.lst [(D.int 12), (D.int 12), (D.int 4), (D.int 2)]) p1.1).bind fun r2 =>
  (Z.nox (f_law_draw p1.2 most)).bind fun p3 =>
  (z2 .add (D.int 1) p3.1).bind fun r4 =>
  (itD .rng [r4]).bind fun xs8 =>
  (foldZ (fun d7 (s5 : List D × List D) =>
  (Z.nox (f_law_holders s5.1 r2)).bind fun p9 =>
    (zapp s5.2 p9.1).bind fun l10 =>
    .ok (p9.2, l10)) xs8 (p3.2, [])).bind fun s6 =>
  (z1 .tupl (D.lst s6.2)).bind fun r11 =>
  .ok (r11, s6.1)
end G
namespace G
open PySem L2
def ho : Ho → D
  | none => .non
  | some k => .int k
def ch (l : Ch) : D := .tup (l.map ho)
def se (S : Se) : D := .tup (S.map ch)
theorem SZ2 : (2000 : Nat) ≤ SZ := by decide
theorem len_se {S : Se} : z1 .len (se S) = .ok (.int S.length) := by unfold se; rw [len_t, List.length_map]
theorem len_ch {l : Ch} : z1 .len (ch l) = .ok (.int l.length) := by unfold ch; rw [len_t, List.length_map]
theorem ix_se {S : Se} {k : Nat} (h : k < S.length) : z2 .ix (se S) (.int k) = .ok (ch (hold S k)) := by
  refine ix_t ?_
  simp [hold, List.getD_eq_getElem?_getD, h]
/-! the program -/
def oi : Option Nat → D
  | none => .non
  | some k => .int k
def told (r : Se × Option Nat) : D := .tup [se r.1, oi r.2]
end G
namespace G
open PySem L2
/-! ### what the law draws -/
/-- one to four chambers of one to twelve seats -/
def Sd (S : Se) : Prop := 0 < S.length ∧ S.length ≤ 4 ∧ ∀ k, k < S.length → 0 < (hold S k).length ∧ (hold S k).length ≤ 12
theorem Sd.put {S : Se} {c : Cg} (h : Sd S) : Sd (put S c) := by
  refine ⟨by rw [put_len]; exact h.1, by rw [put_len]; exact h.2.1, fun k hk => ?_⟩
  rw [put_len] at hk
  have := h.2.2 k hk
  rw [hold_put]
  split
  · simpa using this
  · exact this
end G
namespace G
open PySem L2
/-! ### rules, as numbers -/
inductive RTh where
  | num (n : Nat) | par (k : Nat)
inductive RSh where
  | seats | att | vot
inductive Rul where
  | prem | yeas (c : Nat) (th : RTh) | quo (c : Nat) (th : RTh) | maj (c : Nat) (s : RSh) | frac (c p q : Nat) (s : RSh) | all (a b : Rul) | any (a b : Rul)
def RTh.v (ps : List Nat) : RTh → Nat
  | .num n => n
  | .par k => ps.getD k 0
def RSh.v (m y n p : Nat) : RSh → Nat
  | .seats => m
  | .att => y + n + p
  | .vot => y + n
/-- a rule of one chamber by its counts; of others, nothing -/
def smp (ps : List Nat) (m y n p : Nat) : Rul → Bool
  | .yeas _ th => decide (th.v ps ≤ y)
  | .quo _ th => decide (th.v ps ≤ y + n + p)
  | .maj _ s => decide (s.v m y n p < 2 * y)
  | .frac _ a b s => decide (a * s.v m y n p ≤ b * y)
  | _ => false
section
variable {ps : List Nat} {S : Se} {M M2 : List Nat} {ld : Option Nat} {cap a b : Nat}
end
end G
namespace G
open PySem L2
end G
namespace G
open PySem L2
/-- holders_of(seats, chamber) -/
def f_holders_of (seats : D) (chamber : D) : Z (D) :=
  (z1 .len seats).bind fun r1 =>
  (z2 .lt chamber r1).bind fun r2 =>
  (zite r2 ((z2 .ix seats chamber).bind fun r4 =>
    .ok r4) (.ok (D.tup []))).bind fun s5 =>
  .ok s5
/-- _threshold_value(threshold, parameters) -/
def f_threshold_value (threshold : D) (parameters : D) : Z (D) :=
  (z1 (.isi 0) threshold).bind fun r1 =>
  (z1 .truth r1).bind fun r2 =>
  (znot r2).bind fun r3 =>
  zite r3 (
  .ok threshold) (
  (z2 .ix threshold (D.int 1)).bind fun r4 =>
    (z1 .len parameters).bind fun r5 =>
    (z2 .lt r4 r5).bind fun r6 =>
    (zite r6 ((z2 .ix parameters r4).bind fun r8 =>
      .ok r8) (.ok (D.int 0))).bind fun s9 =>
    .ok s9)
/-- _denominator_value(denominator, counted) -/
def f_denominator_value (denominator : D) (counted : D) : Z (D) :=
  (zun4 counted).bind fun p1 =>
  (z2 .eq denominator (D.str "seats")).bind fun r2 =>
  zite r2 (
  .ok p1.1) (
  (z2 .eq denominator (D.str "attending")).bind fun r3 =>
    zite r3 (
    (z2 .add p1.2.1 p1.2.2.1).bind fun r4 =>
      (z2 .add r4 p1.2.2.2).bind fun r5 =>
      .ok r5) (
    (z2 .add p1.2.1 p1.2.2.1).bind fun r6 =>
      .ok r6))
/-- simple_passes(rule, counted, parameters) -/
def f_simple_passes (rule : D) (counted : D) (parameters : D) : Z (D) :=
  (zun4 counted).bind fun p1 =>
  (z2 .ix rule (D.int 0)).bind fun r2 =>
  (z2 .eq r2 (D.str "yeas")).bind fun r3 =>
  zite r3 (
  (z2 .ix rule (D.int 2)).bind fun r4 =>
    (f_threshold_value r4 parameters).bind fun r5 =>
    (z2 .ge p1.2.1 r5).bind fun r6 =>
    .ok r6) (
  (z2 .eq r2 (D.str "quorum")).bind fun r7 =>
    zite r7 (
    (z2 .add p1.2.1 p1.2.2.1).bind fun r8 =>
      (z2 .add r8 p1.2.2.2).bind fun r9 =>
      (z2 .ix rule (D.int 2)).bind fun r10 =>
      (f_threshold_value r10 parameters).bind fun r11 =>
      (z2 .ge r9 r11).bind fun r12 =>
      .ok r12) (
    (z2 .eq r2 (D.str "majority")).bind fun r13 =>
      zite r13 (
      (z2 .mul (D.int 2) p1.2.1).bind fun r14 =>
        (z2 .ix rule (D.int 2)).bind fun r15 =>
        (f_denominator_value r15 counted).bind fun r16 =>
        (z2 .gt r14 r16).bind fun r17 =>
        .ok r17) (
      (z2 .ix rule (D.int 3)).bind fun r18 =>
        (z2 .mul r18 p1.2.1).bind fun r19 =>
        (z2 .ix rule (D.int 2)).bind fun r20 =>
        (z2 .ix rule (D.int 4)).bind fun r21 =>
        (f_denominator_value r21 counted).bind fun r22 =>
        (z2 .mul r20 r22).bind fun r23 =>
        (z2 .ge r19 r23).bind fun r24 =>
        .ok r24)))
/-- _law_tally(seats, roll, chamber) -/
def f_law_tally (seats : D) (roll : D) (chamber : D) : Z (D) :=
  (z1 .len seats).bind fun r1 =>
  (z2 .ge chamber r1).bind fun r2 =>
  zite r2 (
  .ok (D.tup [(D.int 0), (D.int 0), (D.int 0), (D.int 0)])) (
  (z2 .ix seats chamber).bind fun r3 =>
    (itD .seq [r3]).bind fun xs7 =>
    (foldZ (fun d6 (s4 : List D) =>
    (z1 .notN d6).bind fun r8 =>
      (zand r8 ((z1 .len roll).bind fun r9 =>
        (z2 .lt d6 r9).bind fun r10 =>
        (zand r10 ((z2 .ix roll d6).bind fun r11 =>
          (z2 .ne r11 (D.str "-")).bind fun r12 =>
          .ok r12)).bind fun r13 =>
        .ok r13)).bind fun r14 =>
      zite r14 (
      zrec .sidx (D.str "YNP") <|
        (z2 .ix roll d6).bind fun r15 =>
        (zval (pm .sidx (D.str "YNP") r15)).bind fun r16 =>
        (z2 .ix (D.lst s4) r16).bind fun r17 =>
        (z2 .add r17 (D.int 1)).bind fun r18 =>
        (zst s4 r16 r18).bind fun l19 =>
        .ok l19) (
      .ok s4)) xs7 [(D.int 0), (D.int 0), (D.int 0)]).bind fun s5 =>
    (z2 .ix seats chamber).bind fun r20 =>
    (z1 .len r20).bind fun r21 =>
    (z2 .ix (D.lst s5) (D.int 0)).bind fun r22 =>
    (z2 .ix (D.lst s5) (D.int 1)).bind fun r23 =>
    (z2 .ix (D.lst s5) (D.int 2)).bind fun r24 =>
    .ok (D.tup [r21, r22, r23, r24]))
/-- _law_limits(tape) -/
def f_law_limits (tape : List D) : Z (D × List D) :=
  (Z.nox (f_law_draw tape (D.int 9))).bind fun p1 =>
  (Z.nox (f_law_draw p1.2 (D.int 4))).bind fun p2 =>
  (z2 .ix (D.lst [(D.int 0), (D.int 1), (D.int 3), p1.1]) p2.1).bind fun r3 =>
  (itD .rng [r3]).bind fun xs5 =>
  (mapS (fun d4 s6 =>
  (Z.nox (f_law_draw s6 (D.int 4))).bind fun p7 =>
    (z2 .ix (D.lst [(D.int 3), (D.int 14), (D.int 14), (D.int 1001)]) p7.1).bind fun r8 =>
    (Z.nox (f_law_draw p7.2 r8)).bind fun p9 =>
    .ok (p9.1, p9.2)) xs5 p2.2).bind fun p10 =>
  (z1 .tupl (D.lst p10.1)).bind fun r11 =>
  .ok (r11, p10.2)
/-- _law_leader(tape) -/
def f_law_leader (tape : List D) : Z (D × List D) :=
  (Z.nox (f_law_draw tape (D.int 12))).bind fun p1 =>
  (Z.nox (f_law_draw p1.2 (D.int 3))).bind fun p2 =>
  (z2 .gt p2.1 (D.int 0)).bind fun r3 =>
  (z1 .int r3).bind fun r4 =>
  (z2 .ix (D.lst [D.non, p1.1]) r4).bind fun r5 =>
  .ok (r5, p2.2)
/-- _law_threshold(tape) -/
def f_law_threshold (tape : List D) : Z (D × List D) :=
  (Z.nox (f_law_draw tape (D.int 8))).bind fun p1 =>
  (z2 .lt p1.1 (D.int 2)).bind fun r2 =>
  zite r2 (
  (Z.nox (f_law_draw p1.2 (D.int 2))).bind fun p3 =>
    (z2 .ix (D.lst [(D.int 3), (D.int 8)]) p3.1).bind fun r4 =>
    (Z.nox (f_law_draw p3.2 r4)).bind fun p5 =>
    .ok ((D.tup [(D.str "parameter"), p5.1]), p5.2)) (
  (z2 .eq p1.1 (D.int 2)).bind fun r6 =>
    zite r6 (
    (Z.nox (f_law_draw p1.2 (D.int 4))).bind fun p7 =>
      (z2 .ix (D.lst [(D.int 0), (D.int 1), (D.int 999), (D.int 1000)]) p7.1).bind fun r8 =>
      .ok (r8, p7.2)) (
    (z2 .eq p1.1 (D.int 3)).bind fun r9 =>
      zite r9 (
      (Z.nox (f_law_draw p1.2 (D.int 1001))).bind fun p10 =>
        .ok (p10.1, p10.2)) (
      (Z.nox (f_law_draw p1.2 (D.int 14))).bind fun p11 =>
        .ok (p11.1, p11.2))))
/-- _law_simple(tape, chambers, kinds) -/
def f_law_simple (tape : List D) (chambers : D) (kinds : D) : Z (D × List D) :=
  (z1 .len chambers).bind fun r1 =>
  (Z.nox (f_law_draw tape r1)).bind fun p2 =>
  (z2 .ix chambers p2.1).bind fun r3 =>
  (z1 .len kinds).bind fun r4 =>
  (Z.nox (f_law_draw p2.2 r4)).bind fun p5 =>
  (z2 .ix kinds p5.1).bind fun r6 =>
  (z2 .eq r6 (D.str "premier")).bind fun r7 =>
  zite r7 (
  .ok ((D.tup [(D.str "premier")]), p5.2)) (
  (z2 .eq r6 (D.str "yeas")).bind fun r8 =>
    (zor r8 ((z2 .eq r6 (D.str "quorum")).bind fun r9 =>
      .ok r9)).bind fun r10 =>
    zite r10 (
    (Z.nox (f_law_threshold p5.2)).bind fun p11 =>
      .ok ((D.tup [r6, r3, p11.1]), p11.2)) (
    (Z.nox (f_law_draw p5.2 (D.int 3))).bind fun p12 =>
      (z2 .ix (D.lst [(D.str "seats"), (D.str "attending"), (D.str "voting")]) p12.1).bind fun r13 =>
      (z2 .eq r6 (D.str "majority")).bind fun r14 =>
      zite r14 (
      .ok ((D.tup [(D.str "majority"), r3, r13]), p12.2)) (
      (Z.nox (f_law_draw p12.2 (D.int 12))).bind fun p15 =>
        (z2 .add (D.int 1) p15.1).bind fun r16 =>
        (Z.nox (f_law_draw p15.2 r16)).bind fun p17 =>
        (z2 .add (D.int 1) p17.1).bind fun r18 =>
        .ok ((D.tup [(D.str "fraction"), r3, r18, r16, r13]), p17.2))))
/-- _law_rule(tape, chambers, kinds, depth) -/
def f_law_rule_11 : Nat → List D → D → D → D → Z (D × List D)
  | 0, _, _, _, _ => .no
  | fuel + 1, tape, chambers, kinds, depth =>
    (Z.nox (f_law_draw tape (D.int 7))).bind fun p1 =>
    (z2 .gt depth (D.int 1)).bind fun r2 =>
    (zand r2 ((z2 .lt p1.1 (D.int 4)).bind fun r3 =>
      .ok r3)).bind fun r4 =>
    zite r4 (
    (z2 .sub depth (D.int 1)).bind fun r5 =>
      (Z.nox (f_law_rule_11 fuel p1.2 chambers kinds r5)).bind fun p6 =>
      (z2 .ix (D.lst [(D.str "all"), (D.str "any"), (D.str "all"), (D.str "any")]) p1.1).bind fun r7 =>
      (z2 .sub depth (D.int 1)).bind fun r8 =>
      (Z.nox (f_law_rule_11 fuel p6.2 chambers kinds r8)).bind fun p9 =>
      .ok ((D.tup [r7, p6.1, p9.1]), p9.2)) (
    (Z.nox (f_law_simple p1.2 chambers kinds)).bind fun p10 =>
      .ok (p10.1, p10.2))
/-- _law_limit(threshold, limits) -/
def f_law_limit (threshold : D) (limits : D) : Z (D) :=
  (z1 (.isi 0) threshold).bind fun r1 =>
  (z1 .truth r1).bind fun r2 =>
  zite r2 (
  (z2 .ix threshold (D.int 1)).bind fun r3 =>
    (z1 .len limits).bind fun r4 =>
    (z2 .lt r3 r4).bind fun r5 =>
    zite r5 (
    (z2 .ix threshold (D.int 1)).bind fun r6 =>
      (z2 .ix limits r6).bind fun r7 =>
      .ok r7) (
    .ok (D.int 0))) (
  .ok threshold)
/-- _law_by_counts(rule, counts, limits) -/
def f_law_by_counts (rule : D) (counts : D) (limits : D) : Z (D) :=
  (z2 .ix counts (D.int 1)).bind fun r1 =>
  (z2 .ix counts (D.int 2)).bind fun r2 =>
  (z2 .add r1 r2).bind fun r3 =>
  (z2 .ix counts (D.int 3)).bind fun r4 =>
  (z2 .add r3 r4).bind fun r5 =>
  (z2 .ix rule (D.int 0)).bind fun r6 =>
  (z2 .eq r6 (D.str "yeas")).bind fun r7 =>
  zite r7 (
  (z2 .ix counts (D.int 1)).bind fun r8 =>
    (z2 .ix rule (D.int 2)).bind fun r9 =>
    (f_law_limit r9 limits).bind fun r10 =>
    (z2 .ge r8 r10).bind fun r11 =>
    .ok r11) (
  (z2 .ix rule (D.int 0)).bind fun r12 =>
    (z2 .eq r12 (D.str "quorum")).bind fun r13 =>
    zite r13 (
    (z2 .ix rule (D.int 2)).bind fun r14 =>
      (f_law_limit r14 limits).bind fun r15 =>
      (z2 .ge r5 r15).bind fun r16 =>
      .ok r16) (
    (z2 .ix counts (D.int 0)).bind fun r17 =>
      (z1 .neg (D.int 1)).bind fun r18 =>
      (z2 .ix rule r18).bind fun r19 =>
      (z2 .eq r19 (D.str "attending")).bind fun r20 =>
      (zite r20 (
      .ok r5) (
      .ok r17)).bind fun (s21 : D) =>
      (z1 .neg (D.int 1)).bind fun r22 =>
      (z2 .ix rule r22).bind fun r23 =>
      (z2 .eq r23 (D.str "voting")).bind fun r24 =>
      (zite r24 (
      (z2 .ix counts (D.int 1)).bind fun r25 =>
        (z2 .ix counts (D.int 2)).bind fun r26 =>
        (z2 .add r25 r26).bind fun r27 =>
        .ok r27) (
      .ok s21)).bind fun (s28 : D) =>
      (z2 .ix rule (D.int 0)).bind fun r29 =>
      (z2 .eq r29 (D.str "majority")).bind fun r30 =>
      zite r30 (
      (z2 .ix counts (D.int 1)).bind fun r31 =>
        (z2 .mul (D.int 2) r31).bind fun r32 =>
        (z2 .gt r32 s28).bind fun r33 =>
        .ok r33) (
      (z2 .ix rule (D.int 3)).bind fun r34 =>
        (z2 .ix counts (D.int 1)).bind fun r35 =>
        (z2 .mul r34 r35).bind fun r36 =>
        (z2 .ix rule (D.int 2)).bind fun r37 =>
        (z2 .mul r37 s28).bind fun r38 =>
        (z2 .ge r36 r38).bind fun r39 =>
        .ok r39)))
/-- _law_passes(rule, seats, roll, limits, leader) -/
def f_law_passes_11 : Nat → D → D → D → D → D → Z (D)
  | 0, _, _, _, _, _ => .no
  | fuel + 1, rule, seats, roll, limits, leader =>
    (z2 .ix rule (D.int 0)).bind fun r1 =>
    (z2 .eq r1 (D.str "premier")).bind fun r2 =>
    zite r2 (
    (z1 .notN leader).bind fun r3 =>
      (zand r3 ((z1 .len roll).bind fun r4 =>
        (z2 .lt leader r4).bind fun r5 =>
        (zand r5 ((z2 .ix roll leader).bind fun r6 =>
          (z2 .eq r6 (D.str "Y")).bind fun r7 =>
          .ok r7)).bind fun r8 =>
        .ok r8)).bind fun r9 =>
      .ok r9) (
    (z2 .ix rule (D.int 0)).bind fun r10 =>
      (z2 .eq r10 (D.str "all")).bind fun r11 =>
      (zor r11 ((z2 .ix rule (D.int 0)).bind fun r12 =>
        (z2 .eq r12 (D.str "any")).bind fun r13 =>
        .ok r13)).bind fun r14 =>
      zite r14 (
      (z2 .ix rule (D.int 1)).bind fun r15 =>
        (f_law_passes_11 fuel r15 seats roll limits leader).bind fun r16 =>
        (z2 .ix rule (D.int 2)).bind fun r17 =>
        (f_law_passes_11 fuel r17 seats roll limits leader).bind fun r18 =>
        (z2 .ix rule (D.int 0)).bind fun r19 =>
        (z2 .eq r19 (D.str "all")).bind fun r20 =>
        zite r20 (
        (zand r16 (.ok r18)).bind fun r21 =>
          .ok r21) (
        (zor r16 (.ok r18)).bind fun r22 =>
          .ok r22)) (
      (z2 .ix rule (D.int 1)).bind fun r23 =>
        (f_law_tally seats roll r23).bind fun r24 =>
        (f_law_by_counts rule r24 limits).bind fun r25 =>
        .ok r25))
end G
namespace G
open PySem L2
/-! ### steps in order: what comes later is hidden while a step is looked at -/
inductive Tg {α : Sort u} (x : α) : Type where
  | mk
section
variable {α β γ σ ρ : Type}
end
theorem rngN {n : Nat} (h : n ≤ 16777216) : itD .rng [.int n] = .ok ((List.range n).map fun k : Nat => D.int k) := it_rngN h
end G
namespace G
open PySem L2
theorem sq_yeas_premier : z2 .eq (.str "yeas") (.str "premier") = .ok (.bl false) := congrArg (fun b => Z.ok (D.bl b)) (by decide)
theorem sq_yeas_all : z2 .eq (.str "yeas") (.str "all") = .ok (.bl false) := congrArg (fun b => Z.ok (D.bl b)) (by decide)
theorem sq_yeas_any : z2 .eq (.str "yeas") (.str "any") = .ok (.bl false) := congrArg (fun b => Z.ok (D.bl b)) (by decide)
theorem sq_yeas_yeas : z2 .eq (.str "yeas") (.str "yeas") = .ok (.bl true) := congrArg (fun b => Z.ok (D.bl b)) (by decide)
theorem sq_quorum_premier : z2 .eq (.str "quorum") (.str "premier") = .ok (.bl false) := congrArg (fun b => Z.ok (D.bl b)) (by decide)
theorem sq_quorum_all : z2 .eq (.str "quorum") (.str "all") = .ok (.bl false) := congrArg (fun b => Z.ok (D.bl b)) (by decide)
theorem sq_quorum_any : z2 .eq (.str "quorum") (.str "any") = .ok (.bl false) := congrArg (fun b => Z.ok (D.bl b)) (by decide)
theorem sq_quorum_yeas : z2 .eq (.str "quorum") (.str "yeas") = .ok (.bl false) := congrArg (fun b => Z.ok (D.bl b)) (by decide)
theorem sq_quorum_quorum : z2 .eq (.str "quorum") (.str "quorum") = .ok (.bl true) := congrArg (fun b => Z.ok (D.bl b)) (by decide)
theorem sq_majority_premier : z2 .eq (.str "majority") (.str "premier") = .ok (.bl false) := congrArg (fun b => Z.ok (D.bl b)) (by decide)
theorem sq_majority_all : z2 .eq (.str "majority") (.str "all") = .ok (.bl false) := congrArg (fun b => Z.ok (D.bl b)) (by decide)
theorem sq_majority_any : z2 .eq (.str "majority") (.str "any") = .ok (.bl false) := congrArg (fun b => Z.ok (D.bl b)) (by decide)
theorem sq_majority_yeas : z2 .eq (.str "majority") (.str "yeas") = .ok (.bl false) := congrArg (fun b => Z.ok (D.bl b)) (by decide)
theorem sq_majority_quorum : z2 .eq (.str "majority") (.str "quorum") = .ok (.bl false) := congrArg (fun b => Z.ok (D.bl b)) (by decide)
theorem sq_majority_majority : z2 .eq (.str "majority") (.str "majority") = .ok (.bl true) := congrArg (fun b => Z.ok (D.bl b)) (by decide)
theorem sq_fraction_premier : z2 .eq (.str "fraction") (.str "premier") = .ok (.bl false) := congrArg (fun b => Z.ok (D.bl b)) (by decide)
theorem sq_fraction_all : z2 .eq (.str "fraction") (.str "all") = .ok (.bl false) := congrArg (fun b => Z.ok (D.bl b)) (by decide)
theorem sq_fraction_any : z2 .eq (.str "fraction") (.str "any") = .ok (.bl false) := congrArg (fun b => Z.ok (D.bl b)) (by decide)
theorem sq_fraction_yeas : z2 .eq (.str "fraction") (.str "yeas") = .ok (.bl false) := congrArg (fun b => Z.ok (D.bl b)) (by decide)
theorem sq_fraction_quorum : z2 .eq (.str "fraction") (.str "quorum") = .ok (.bl false) := congrArg (fun b => Z.ok (D.bl b)) (by decide)
theorem sq_fraction_majority : z2 .eq (.str "fraction") (.str "majority") = .ok (.bl false) := congrArg (fun b => Z.ok (D.bl b)) (by decide)
theorem sq_premier_premier : z2 .eq (.str "premier") (.str "premier") = .ok (.bl true) := congrArg (fun b => Z.ok (D.bl b)) (by decide)
theorem sq_premier_all : z2 .eq (.str "premier") (.str "all") = .ok (.bl false) := congrArg (fun b => Z.ok (D.bl b)) (by decide)
theorem sq_premier_any : z2 .eq (.str "premier") (.str "any") = .ok (.bl false) := congrArg (fun b => Z.ok (D.bl b)) (by decide)
theorem sq_all_premier : z2 .eq (.str "all") (.str "premier") = .ok (.bl false) := congrArg (fun b => Z.ok (D.bl b)) (by decide)
theorem sq_all_all : z2 .eq (.str "all") (.str "all") = .ok (.bl true) := congrArg (fun b => Z.ok (D.bl b)) (by decide)
theorem sq_any_premier : z2 .eq (.str "any") (.str "premier") = .ok (.bl false) := congrArg (fun b => Z.ok (D.bl b)) (by decide)
theorem sq_any_all : z2 .eq (.str "any") (.str "all") = .ok (.bl false) := congrArg (fun b => Z.ok (D.bl b)) (by decide)
theorem sq_any_any : z2 .eq (.str "any") (.str "any") = .ok (.bl true) := congrArg (fun b => Z.ok (D.bl b)) (by decide)
theorem sq_seats_seats : z2 .eq (.str "seats") (.str "seats") = .ok (.bl true) := congrArg (fun b => Z.ok (D.bl b)) (by decide)
theorem sq_seats_attending : z2 .eq (.str "seats") (.str "attending") = .ok (.bl false) := congrArg (fun b => Z.ok (D.bl b)) (by decide)
theorem sq_seats_voting : z2 .eq (.str "seats") (.str "voting") = .ok (.bl false) := congrArg (fun b => Z.ok (D.bl b)) (by decide)
theorem sq_attending_seats : z2 .eq (.str "attending") (.str "seats") = .ok (.bl false) := congrArg (fun b => Z.ok (D.bl b)) (by decide)
theorem sq_attending_attending : z2 .eq (.str "attending") (.str "attending") = .ok (.bl true) := congrArg (fun b => Z.ok (D.bl b)) (by decide)
theorem sq_attending_voting : z2 .eq (.str "attending") (.str "voting") = .ok (.bl false) := congrArg (fun b => Z.ok (D.bl b)) (by decide)
theorem sq_voting_seats : z2 .eq (.str "voting") (.str "seats") = .ok (.bl false) := congrArg (fun b => Z.ok (D.bl b)) (by decide)
theorem sq_voting_attending : z2 .eq (.str "voting") (.str "attending") = .ok (.bl false) := congrArg (fun b => Z.ok (D.bl b)) (by decide)
theorem sq_voting_voting : z2 .eq (.str "voting") (.str "voting") = .ok (.bl true) := congrArg (fun b => Z.ok (D.bl b)) (by decide)
theorem sn_yeas : z2 .nin (.str "yeas") (.tup [.str "all", .str "any"]) = .ok (.bl true) := rfl
theorem sn_quorum : z2 .nin (.str "quorum") (.tup [.str "all", .str "any"]) = .ok (.bl true) := rfl
theorem sn_majority : z2 .nin (.str "majority") (.tup [.str "all", .str "any"]) = .ok (.bl true) := rfl
theorem sn_fraction : z2 .nin (.str "fraction") (.tup [.str "all", .str "any"]) = .ok (.bl true) := rfl
theorem sn_all : z2 .nin (.str "all") (.tup [.str "all", .str "any"]) = .ok (.bl false) := rfl
theorem sn_any : z2 .nin (.str "any") (.tup [.str "all", .str "any"]) = .ok (.bl false) := rfl
def rthD : RTh → D
  | .num n => .int n
  | .par k => .tup [.str "parameter", .int k]
def shD : RSh → D
  | .seats => .str "seats"
  | .att => .str "attending"
  | .vot => .str "voting"
def rlD : Rul → D
  | .prem => .tup [.str "premier"]
  | .yeas c th => .tup [.str "yeas", .int c, rthD th]
  | .quo c th => .tup [.str "quorum", .int c, rthD th]
  | .maj c s => .tup [.str "majority", .int c, shD s]
  | .frac c p q s => .tup [.str "fraction", .int c, .int p, .int q, shD s]
  | .all a b => .tup [.str "all", rlD a, rlD b]
  | .any a b => .tup [.str "any", rlD a, rlD b]
theorem ixq0 {a : D} {l : List D} : z2 .ix (.tup (a :: l)) (.int 0) = .ok a := ix_t (k := 0) rfl
theorem ixq1 {a b : D} {l : List D} : z2 .ix (.tup (a :: b :: l)) (.int 1) = .ok b := ix_t (k := 1) rfl
theorem ixq2 {a b c : D} {l : List D} : z2 .ix (.tup (a :: b :: c :: l)) (.int 2) = .ok c := ix_t (k := 2) rfl
theorem ixq3 {a b c d : D} {l : List D} : z2 .ix (.tup (a :: b :: c :: d :: l)) (.int 3) = .ok d := ix_t (k := 3) rfl
theorem ixq4 {a b c d e : D} {l : List D} : z2 .ix (.tup (a :: b :: c :: d :: e :: l)) (.int 4) = .ok e := ix_t (k := 4) rfl
def cts (m y n p : Nat) : D := .tup [.int m, .int y, .int n, .int p]
theorem un_cts {m y n p : Nat} : zun4 (cts m y n p) = .ok (.int m, .int y, .int n, .int p) := rfl
theorem threshold_ok {th : RTh} {ps : List Nat} : f_threshold_value (rthD th) (tr ps) = .ok (.int (th.v ps)) := by
  unfold f_threshold_value
  cases th with
  | num n =>
    simp only [rthD]
    rw [isi0_i, bind_ok', tr_b, bind_ok', not_b, bind_ok', ite_b, if_pos (by decide)]
    rfl
  | par k =>
    simp only [rthD]
    rw [isi0_t, bind_ok', tr_b, bind_ok', not_b, bind_ok', ite_b, if_neg (by decide), ixq1, bind_ok', len_tr, bind_ok', lt_i, bind_ok', ite_b]
    by_cases q : k < ps.length
    · rw [if_pos (by simp; omega), ix_tr q, bind_ok', bind_ok']
      simp [ga, RTh.v]
    · rw [if_neg (by simp; omega), bind_ok', RTh.v, List.getD_eq_getElem?_getD, List.getElem?_eq_none (by omega)]
      rfl
theorem limit_ok {th : RTh} {ps : List Nat} : f_law_limit (rthD th) (tr ps) = .ok (.int (th.v ps)) := by
  unfold f_law_limit
  cases th with
  | num n =>
    simp only [rthD]
    rw [isi0_i, bind_ok', tr_b, bind_ok', ite_b, if_neg (by decide)]
    rfl
  | par k =>
    simp only [rthD]
    rw [isi0_t, bind_ok', tr_b, bind_ok', ite_b, if_pos rfl, ixq1, bind_ok', len_tr, bind_ok', lt_i, bind_ok', ite_b]
    by_cases q : k < ps.length
    · rw [if_pos (by simp; omega), bind_ok', ix_tr q, bind_ok']
      simp [ga, RTh.v]
    · rw [if_neg (by simp; omega), RTh.v, List.getD_eq_getElem?_getD, List.getElem?_eq_none (by omega)]
      rfl
theorem den_ok {s : RSh} {m y n p : Nat} : f_denominator_value (shD s) (cts m y n p) = .ok (.int (s.v m y n p)) := by
  unfold f_denominator_value
  rw [un_cts, bind_ok']
  cases s with
  | seats => simp only [shD]; rw [sq_seats_seats, bind_ok', ite_b, if_pos rfl]; rfl
  | att =>
    simp only [shD]
    rw [sq_attending_seats, bind_ok', ite_b, if_neg (by decide), sq_attending_attending, bind_ok', ite_b, if_pos rfl, add_i, bind_ok', add_i, bind_ok']
    simp [RSh.v]
  | vot =>
    simp only [shD]
    rw [sq_voting_seats, bind_ok', ite_b, if_neg (by decide), sq_voting_attending, bind_ok', ite_b, if_neg (by decide), add_i, bind_ok']
    simp [RSh.v]
/-- a rule of one chamber -/
def Rul.one : Rul → Option Nat
  | .yeas c _ => some c
  | .quo c _ => some c
  | .maj c _ => some c
  | .frac c _ _ _ => some c
  | _ => none
theorem shv_le {s : RSh} {m y n p : Nat} (hm : m ≤ 1000) (hy : y + n + p ≤ 3000) : s.v m y n p ≤ 3000 := by
  cases s <;> simp only [RSh.v] <;> omega
theorem simple_ok {r : Rul} {m y n p : Nat} {ps : List Nat} {c : Nat} (h : r.one = some c) (hm : m ≤ 1000) (hy : y + n + p ≤ 3000) : f_simple_passes (rlD r) (cts m y n p) (tr ps) = .ok (.bl (smp ps m y n p r)) := by
  unfold f_simple_passes
  rw [un_cts, bind_ok']
  cases r with
  | prem => cases h
  | all a b => cases h
  | any a b => cases h
  | yeas c th =>
    simp only [rlD]
    rw [ixq0, bind_ok', sq_yeas_yeas, bind_ok', ite_b, if_pos rfl, ixq2, bind_ok', threshold_ok, bind_ok', ge_i, bind_ok']
    simp [smp]
  | quo c th =>
    simp only [rlD]
    rw [ixq0, bind_ok', sq_quorum_yeas, bind_ok', ite_b, if_neg (by decide), sq_quorum_quorum, bind_ok', ite_b, if_pos rfl, add_i, bind_ok', add_i, bind_ok', ixq2, bind_ok', threshold_ok, bind_ok', ge_i, bind_ok']
    have : (((th.v ps : Nat) : Int) ≤ y + n + p) ↔ (th.v ps ≤ y + n + p) := by omega
    simp [smp, this]
  | maj c s =>
    simp only [rlD]
    rw [ixq0, bind_ok', sq_majority_yeas, bind_ok', ite_b, if_neg (by decide), sq_majority_quorum, bind_ok', ite_b, if_neg (by decide), sq_majority_majority, bind_ok', ite_b, if_pos rfl, mul_i (.inl (by decide)), bind_ok', ixq2, bind_ok', den_ok, bind_ok', gt_i, bind_ok']
    have : (((s.v m y n p : Nat) : Int) < 2 * y) ↔ (s.v m y n p < 2 * y) := by omega
    simp [smp, this]
  | frac c a b s =>
    have hs := shv_le (s := s) (p := p) hm hy
    simp only [rlD]
    rw [ixq0, bind_ok', sq_fraction_yeas, bind_ok', ite_b, if_neg (by decide), sq_fraction_quorum, bind_ok', ite_b, if_neg (by decide), sq_fraction_majority, bind_ok', ite_b, if_neg (by decide), ixq3, bind_ok', mul_i (.inr (by omega)), bind_ok', ixq2, bind_ok', ixq4, bind_ok', den_ok, bind_ok', mul_i (.inr (by omega)), bind_ok', ge_i, bind_ok']
    have : (((a : Nat) : Int) * (s.v m y n p : Nat) ≤ b * y) ↔ (a * s.v m y n p ≤ b * y) := by rw [← Int.natCast_mul, ← Int.natCast_mul]; omega
    simp [smp, this]
theorem holders_of_ok {S : Se} {c : Nat} : f_holders_of (se S) (.int c) = .ok (ch (hold S c)) := by
  unfold f_holders_of
  rw [len_se, bind_ok', lt_i, bind_ok', ite_b]
  by_cases q : c < S.length
  · rw [if_pos (by simp; omega), ix_se q, bind_ok', bind_ok']
  · rw [if_neg (by simp; omega), bind_ok', hold, List.getD_eq_getElem?_getD, List.getElem?_eq_none (by omega)]
    rfl
end G
namespace G
open PySem L2
/-! ### the program's highest amount -/
theorem rl_one {r : Rul} {c : Nat} (h : r.one = some c) : z2 .ix (rlD r) (.int 1) = .ok (.int c) := by
  cases r <;> first | (cases h; done) | (cases h; exact ixq1)
def Rul.dep : Rul → Nat
  | .all a b => max a.dep b.dep + 1
  | .any a b => max a.dep b.dep + 1
  | _ => 1
end G
namespace G
open PySem L2
variable {γ : Type}
/-! ### ballots -/
theorem glue_fold : ∀ (l : List Str) (acc : Array Nat), (l.foldl (fun acc p => acc ++ ("" : Str).cps ++ p.cps) acc).toList = acc.toList ++ l.flatMap fun p => p.cps.toList
  | [], acc => by simp
  | p :: l, acc => by
    rw [List.foldl_cons, glue_fold l, List.flatMap_cons]
    have : ("" : Str).cps = #[] := rfl
    simp [this]
theorem cl_0 {a b c : Nat} : z2 .ix (D.lst (nl [a, b, c])) (.int 0) = .ok (.int a) := ix_l (k := 0) rfl
theorem cl_1 {a b c : Nat} : z2 .ix (D.lst (nl [a, b, c])) (.int 1) = .ok (.int b) := ix_l (k := 1) rfl
theorem cl_2 {a b c : Nat} : z2 .ix (D.lst (nl [a, b, c])) (.int 2) = .ok (.int c) := ix_l (k := 2) rfl
theorem cs_0 {a b c : Nat} : zst (nl [a, b, c]) (.int 0) (.int ((a : Int) + 1)) = .ok (nl [a + 1, b, c]) := st_ok (k := 0) (by rw [nl_len]; exact Nat.le_of_ble_eq_true rfl)
theorem cs_1 {a b c : Nat} : zst (nl [a, b, c]) (.int 1) (.int ((b : Int) + 1)) = .ok (nl [a, b + 1, c]) := st_ok (k := 1) (by rw [nl_len]; exact Nat.le_of_ble_eq_true rfl)
theorem zrec_yn {m : Z γ} : zrec .sidx (D.str "YNP") m = m := if_pos rfl
theorem ixm3 {a b c : D} : z2 .ix (.tup [a, b, c]) (.int (-1)) = .ok c := rfl
theorem ixm5 {a b c d e : D} : z2 .ix (.tup [a, b, c, d, e]) (.int (-1)) = .ok e := rfl
theorem by_counts_ok {r : Rul} {m y n p : Nat} {ps : List Nat} {c : Nat} (h : r.one = some c) (hm : m ≤ 1000) (hy : y + n + p ≤ 3000) : f_law_by_counts (rlD r) (cts m y n p) (tr ps) = .ok (.bl (smp ps m y n p r)) := by
  have c0 : z2 .ix (cts m y n p) (.int 0) = .ok (.int m) := ixq0
  have c1 : z2 .ix (cts m y n p) (.int 1) = .ok (.int y) := ixq1
  have c2 : z2 .ix (cts m y n p) (.int 2) = .ok (.int n) := ixq2
  have c3 : z2 .ix (cts m y n p) (.int 3) = .ok (.int p) := ixq3
  have share : ∀ {α : Type} (s : RSh) (d : D) (hd : z2 .ix d (.int (-1)) = .ok (shD s)) (k : D → Z α), ((z1 .neg (D.int 1)).bind fun r18 => (z2 .ix d r18).bind fun r19 => (z2 .eq r19 (D.str "attending")).bind fun r20 => (zite r20 (.ok (D.int ((y : Int) + n + p))) (.ok (D.int m))).bind fun (s21 : D) => (z1 .neg (D.int 1)).bind fun r22 => (z2 .ix d r22).bind fun r23 => (z2 .eq r23 (D.str "voting")).bind fun r24 => (zite r24 ((Z.ok (D.int y)).bind fun r25 => (Z.ok (D.int n)).bind fun r26 => (z2 .add r25 r26).bind fun r27 => .ok r27) (.ok s21)).bind k) = k (.int (s.v m y n p)) := by
    intro α s d hd k
    rw [neg_i, bind_ok', hd, bind_ok']
    cases s with
    | seats =>
      simp only [shD] at hd ⊢
      rw [sq_seats_attending, bind_ok', ite_b, if_neg (by decide), bind_ok', bind_ok', hd, bind_ok', sq_seats_voting, bind_ok', ite_b, if_neg (by decide), bind_ok']
      rfl
    | att =>
      simp only [shD] at hd ⊢
      rw [sq_attending_attending, bind_ok', ite_b, if_pos rfl, bind_ok', bind_ok', hd, bind_ok', sq_attending_voting, bind_ok', ite_b, if_neg (by decide), bind_ok']
      simp [RSh.v]
    | vot =>
      simp only [shD] at hd ⊢
      rw [sq_voting_attending, bind_ok', ite_b, if_neg (by decide), bind_ok', bind_ok', hd, bind_ok', sq_voting_voting, bind_ok', ite_b, if_pos rfl, bind_ok', bind_ok', add_i, bind_ok', bind_ok']
      simp [RSh.v]
  unfold f_law_by_counts
  rw [c1, bind_ok', c2, bind_ok', add_i, bind_ok', c3, bind_ok', add_i, bind_ok']
  cases r with
  | prem => cases h
  | all a b => cases h
  | any a b => cases h
  | yeas c th =>
    simp only [rlD]
    rw [ixq0, bind_ok', sq_yeas_yeas, bind_ok', ite_b, if_pos rfl, bind_ok', ixq2, bind_ok', limit_ok, bind_ok', ge_i, bind_ok']
    simp [smp]
  | quo c th =>
    simp only [rlD]
    rw [ixq0, bind_ok', sq_quorum_yeas, bind_ok', ite_b, if_neg (by decide), bind_ok', sq_quorum_quorum, bind_ok', ite_b, if_pos rfl, ixq2, bind_ok', limit_ok, bind_ok', ge_i, bind_ok']
    have : (((th.v ps : Nat) : Int) ≤ y + n + p) ↔ (th.v ps ≤ y + n + p) := by omega
    simp [smp, this]
  | maj c s =>
    simp only [rlD]
    rw [ixq0, bind_ok', sq_majority_yeas, bind_ok', ite_b, if_neg (by decide), bind_ok', sq_majority_quorum, bind_ok', ite_b, if_neg (by decide), c0, bind_ok', share s _ ixm3, bind_ok', sq_majority_majority, bind_ok', ite_b, if_pos rfl, bind_ok', mul_i (.inl (by decide)), bind_ok', gt_i, bind_ok']
    have : (((s.v m y n p : Nat) : Int) < 2 * y) ↔ (s.v m y n p < 2 * y) := by omega
    simp [smp, this]
  | frac c a b s =>
    have hs := shv_le (s := s) (p := p) hm hy
    simp only [rlD]
    rw [ixq0, bind_ok', sq_fraction_yeas, bind_ok', ite_b, if_neg (by decide), bind_ok', sq_fraction_quorum, bind_ok', ite_b, if_neg (by decide), c0, bind_ok', share s _ ixm5, bind_ok', sq_fraction_majority, bind_ok', ite_b, if_neg (by decide), ixq3, bind_ok', bind_ok', mul_i (.inr (by omega)), bind_ok', ixq2, bind_ok', mul_i (.inr (by omega)), bind_ok', ge_i, bind_ok']
    have : (((a : Nat) : Int) * (s.v m y n p : Nat) ≤ b * y) ↔ (a * s.v m y n p ≤ b * y) := by rw [← Int.natCast_mul, ← Int.natCast_mul]; omega
    simp [smp, this]
end G
namespace G
open PySem L2
/-! ### whether a rule passes -/
section
variable {S : Se} {M : List Nat} {a : Nat} {ps : List Nat} {ld : Option Nat}
end
end G
namespace G
open PySem L2
/-! ### what the laws of amounts draw -/
def SdB (S : Se) : Prop := Sd S ∧ ∀ c x, some x ∈ hold S c → x < 12
theorem holdersB_ok {t : List D} (ht : Tp t) {top : Int} (h0 : 0 < top) (h1 : top ≤ 12) : Zw (f_law_holders t (.int top)) fun r => (∃ l : Ch, r.1 = ch l ∧ 0 < l.length ∧ l.length ≤ 12 ∧ ∀ x, some x ∈ l → x < 12) ∧ Tp r.2 := by
  unfold f_law_holders
  have hz := SZ2
  refine zd ht (by decide) (by decide) fun v t hv ht => ?_
  dsimp only
  rw [add_i, bind_ok', show (1 : Int) + v = ((v + 1 : Nat) : Int) by omega, it_rngN (by omega), bind_ok']
  refine zc (zw_foldN (fun k : Nat => D.int k) (fun i s => ∃ l : Ch, s.2 = l.map ho ∧ l.length = i ∧ (∀ x, some x ∈ l → x < 12) ∧ Tp s.1) ⟨[], rfl, rfl, by simp, ht⟩ ?_) ?_
  · rintro i ⟨t, s⟩ hi ⟨l, e, hl, hb, ht⟩
    dsimp only at e ht ⊢
    subst e
    refine zd ht (by decide) (by decide) fun w t hw ht => ?_
    dsimp only
    rw [eq_i, bind_ok', ite_b]
    split
    · rw [app_ok (by simp; omega), bind_ok']
      refine zw_ok.mpr ⟨l ++ [none], by simp [ho], by simp [hl], fun x hx => ?_, ht⟩
      rcases List.mem_append.mp hx with hx | hx
      · exact hb x hx
      · simp at hx
    · refine zd ht h0 (by omega) fun x t hx ht => ?_
      dsimp only
      rw [app_ok (by simp; omega), bind_ok']
      refine zw_ok.mpr ⟨l ++ [some x], by simp [ho], by simp [hl], fun y hy => ?_, ht⟩
      rcases List.mem_append.mp hy with hy | hy
      · exact hb y hy
      · simp at hy; omega
  · rintro ⟨t, s⟩ ⟨l, e, hl, hb, ht⟩
    dsimp only at e ht ⊢
    subst e
    rw [tupl_l, bind_ok']
    exact zw_ok.mpr ⟨⟨l, rfl, by omega, by omega, hb⟩, ht⟩
theorem seatsB_ok {t : List D} (ht : Tp t) : Zw (f_law_seats t (.int 4)) fun r => (∃ S : Se, r.1 = se S ∧ SdB S) ∧ Tp r.2 := by
  unfold f_law_seats
  have hz := SZ2
  refine zd ht (by decide) (by decide) fun v t hv ht => ?_
  dsimp only
  refine zpick [12, 12, 4, 2] rfl (by simp; omega) fun top htop => ?_
  simp only [List.mem_cons, List.not_mem_nil, or_false] at htop
  refine zd ht (by decide) (by decide) fun w t hw ht => ?_
  dsimp only
  rw [add_i, bind_ok', show (1 : Int) + w = ((w + 1 : Nat) : Int) by omega, it_rngN (by omega), bind_ok']
  refine zc (zw_foldN (fun k : Nat => D.int k) (fun i s => ∃ S : Se, s.2 = S.map ch ∧ S.length = i ∧ (∀ l ∈ S, (0 < l.length ∧ l.length ≤ 12) ∧ ∀ x, some x ∈ l → x < 12) ∧ Tp s.1) ⟨[], rfl, rfl, by simp, ht⟩ ?_) ?_
  · rintro i ⟨t, s⟩ hi ⟨S, e, hl, hS, ht⟩
    dsimp only at e ht ⊢
    subst e
    refine zcn (holdersB_ok ht (by omega) (by omega)) fun r hr => ?_
    obtain ⟨r, t⟩ := r
    obtain ⟨⟨l, e, hl2, hl3, hl4⟩, ht⟩ := hr
    dsimp only at e ht ⊢
    subst e
    rw [app_ok (by simp; omega), bind_ok']
    refine zw_ok.mpr ⟨S ++ [l], by simp, by simp [hl], ?_, ht⟩
    intro x hx
    rcases List.mem_append.mp hx with hx | hx
    · exact hS x hx
    · rw [List.mem_singleton.mp hx]; exact ⟨⟨hl2, hl3⟩, hl4⟩
  · rintro ⟨t, s⟩ ⟨S, e, hl, hS, ht⟩
    dsimp only at e ht ⊢
    subst e
    rw [tupl_l, bind_ok']
    have at_ : ∀ k, k < S.length → hold S k ∈ S := fun k hk => by
      have : hold S k = S[k] := by simp [hold, List.getD_eq_getElem?_getD, hk]
      rw [this]
      exact List.getElem_mem hk
    refine zw_ok.mpr ⟨⟨S, rfl, ⟨by omega, by omega, fun k hk => (hS _ (at_ k hk)).1⟩, fun c x hx => ?_⟩, ht⟩
    by_cases hc : c < S.length
    · exact (hS _ (at_ c hc)).2 x hx
    · rw [hold, List.getD_eq_getElem?_getD, List.getElem?_eq_none (by omega)] at hx
      simp at hx
theorem SdB.le {S : Se} (h : SdB S) (c : Nat) : (hold S c).length ≤ 12 := by
  by_cases hc : c < S.length
  · exact (h.1.2.2 c hc).2
  · rw [hold, List.getD_eq_getElem?_getD, List.getElem?_eq_none (by omega)]; simp
theorem limits_ok {t : List D} (ht : Tp t) : Zw (f_law_limits t) fun r => (∃ ps : List Nat, r.1 = tr ps ∧ ps.length ≤ 8) ∧ Tp r.2 := by
  have hz := SZ2
  unfold f_law_limits
  refine zd ht (by decide) (by decide) fun a t ha ht => ?_
  refine zd ht (by decide) (by decide) fun b t hb ht => ?_
  dsimp only
  refine zpick [0, 1, 3, (a : Int)] rfl (by simp; omega) fun n hn => ?_
  have hn2 : 0 ≤ n ∧ n ≤ 8 := by simp at hn; omega
  rw [it_rng (by omega) (by omega), bind_ok']
  refine zc (zw_mapS_all (fun d => ∃ k : Nat, d = .int k ∧ True) Tp (by simp; omega) ht ?_) ?_
  · intro d hd t ht
    refine zd ht (by decide) (by decide) fun c t hc ht => ?_
    dsimp only
    refine zpick [3, 14, 14, 1001] rfl (by simp; omega) fun m hm => ?_
    have hm2 : 3 ≤ m ∧ m ≤ 1001 := by simp at hm; omega
    refine zd ht (by omega) (by omega) fun e t he ht => ?_
    exact zw_ok.mpr ⟨⟨e, rfl, trivial⟩, ht⟩
  · rintro ⟨ys, t⟩ ⟨hl, hy, ht⟩
    obtain ⟨x, rfl, _⟩ := enc_of (enc := fun k : Nat => D.int k) hy
    rw [tupl_l, bind_ok', zw_ok]
    simp at hl
    exact ⟨⟨x, rfl, by omega⟩, ht⟩
theorem leader_ok {t : List D} (ht : Tp t) : Zw (f_law_leader t) fun r => (∃ ld : Option Nat, r.1 = ho ld ∧ ∀ l, ld = some l → l < 12) ∧ Tp r.2 := by
  unfold f_law_leader
  refine zd ht (by decide) (by decide) fun a t ha ht => ?_
  refine zd ht (by decide) (by decide) fun b t hb ht => ?_
  dsimp only
  rw [gt_i, bind_ok']
  have e : z1 .int (.bl (decide ((0 : Int) < b))) = .ok (.int (if 0 < b then 1 else 0)) := by
    by_cases q : 0 < b
    · rw [if_pos q, show decide ((0 : Int) < b) = true by simp; omega]; rfl
    · rw [if_neg q, show decide ((0 : Int) < b) = false by simp; omega]; rfl
  rw [e, bind_ok']
  by_cases q : 0 < b
  · rw [if_pos q, show z2 .ix (D.lst [D.non, D.int a]) (.int 1) = .ok (.int a) from ix_l (k := 1) rfl, bind_ok', zw_ok]
    exact ⟨⟨some a, rfl, fun l h => by cases h; omega⟩, ht⟩
  · rw [if_neg q, show z2 .ix (D.lst [D.non, D.int a]) (.int 0) = .ok .non from ix_l (k := 0) rfl, bind_ok', zw_ok]
    exact ⟨⟨none, rfl, fun l h => by cases h⟩, ht⟩
theorem thresh_ok {t : List D} (ht : Tp t) : Zw (f_law_threshold t) fun r => (∃ th : RTh, r.1 = rthD th) ∧ Tp r.2 := by
  unfold f_law_threshold
  refine zd ht (by decide) (by decide) fun a t ha ht => ?_
  dsimp only
  rw [lt_i, bind_ok', ite_b]
  split
  · refine zd ht (by decide) (by decide) fun b t hb ht => ?_
    dsimp only
    refine zpick [3, 8] rfl (by simp; omega) fun n hn => ?_
    have hn2 : 3 ≤ n ∧ n ≤ 8 := by simp at hn; omega
    refine zd ht (by omega) (by omega) fun c t hc ht => ?_
    exact zw_ok.mpr ⟨⟨.par c, rfl⟩, ht⟩
  · rw [eq_i, bind_ok', ite_b]
    split
    · refine zd ht (by decide) (by decide) fun b t hb ht => ?_
      dsimp only
      refine zpick [0, 1, 999, 1000] rfl (by simp; omega) fun n hn => ?_
      have hn2 : 0 ≤ n := by simp at hn; omega
      obtain ⟨k, rfl⟩ := Int.eq_ofNat_of_zero_le hn2
      exact zw_ok.mpr ⟨⟨.num k, rfl⟩, ht⟩
    · rw [eq_i, bind_ok', ite_b]
      split
      · refine zd ht (by decide) (by decide) fun b t hb ht => ?_
        exact zw_ok.mpr ⟨⟨.num b, rfl⟩, ht⟩
      · refine zd ht (by decide) (by decide) fun b t hb ht => ?_
        exact zw_ok.mpr ⟨⟨.num b, rfl⟩, ht⟩
theorem zlist {α : Type} {Q : α → Prop} {f : D → Z α} {xs : List D} {v : Nat} (hv : v < xs.length) (k : ∀ d ∈ xs, Zw (f d) Q) : Zw ((z2 .ix (.lst xs) (.int v)).bind f) Q := by
  rw [ix_l (List.getElem?_eq_getElem hv), bind_ok']
  exact k _ (List.getElem_mem hv)
end G
namespace G
open PySem L2
end G
namespace G
open PySem L2
end G
namespace G
open PySem L2
/-! ### conflicts of edits, edits in order: without data -/
def cf (a b : Ed) : Bool := decide (a.p < b.e) && decide (b.p < a.e)
/-! ### the sort by index is the stable sort -/
end G
namespace G
open PySem L2
/-! ### conflicts and the sort: the readings -/
/-! the first of them -/
def ge (es : List Ed) (i : Nat) : Ed := es.getD i ⟨0, [], []⟩
/-! the sorts -/
end G
namespace G
open PySem L2
/-- _law_roll(tape, many) -/
def f_law_roll (tape : List D) (many : D) : Z (D × List D) :=
  zrec .join (D.str "") <|
  (itD .rng [many]).bind fun xs2 =>
  (mapS (fun d1 s3 =>
  (Z.nox (f_law_draw s3 (D.int 6))).bind fun p4 =>
    (z2 .ix (D.str "YYNNP-") p4.1).bind fun r5 =>
    .ok (r5, p4.2)) xs2 tape).bind fun p6 =>
  (zval (pm .join (D.str "") (D.lst p6.1))).bind fun r7 =>
  .ok (r7, p6.2)
end G
namespace G
open PySem L2
/-! ### amendments: the order of the votes, who is adopted -/
/-- flags -/
def fl (fs : List Bool) : D := .tup (fs.map .bl)
def hit (es : List Ed) (acc : List Nat) (k : Nat) : Bool := acc.any fun j => cf (ge es j) (ge es k)
end G
namespace G
open PySem L2
end G
namespace G
open PySem L2
/-! ### bills -/
def pas (es : List Ed) (as : List Nat) : List Ed := as.filterMap fun k => es[k]?
section
variable {l : Tx} {es : List Ed} {rs : List Str} {as : List Nat}
end
end G
namespace G
open PySem L2
/-! ### a drawn order; popping -/
end G
namespace G
open PySem L2
end G
namespace G
open PySem L2
/-- vote_of(roll_call, member) -/
def f_vote_of (roll_call : D) (member : D) : Z (D) :=
  (z1 .len roll_call).bind fun r1 =>
  (z2 .lt member r1).bind fun r2 =>
  (zite r2 ((z2 .ix roll_call member).bind fun r4 =>
    .ok r4) (.ok (D.str "-"))).bind fun s5 =>
  .ok s5
/-- tally(seats, roll_call, chamber) -/
def f_tally (seats : D) (roll_call : D) (chamber : D) : Z (D) :=
  (f_holders_of seats chamber).bind fun r1 =>
  (itD .seq [r1]).bind fun xs3 =>
  (compZ (fun d2 =>
  (z1 .notN d2).bind fun r5 =>
    zite r5 ((f_vote_of roll_call d2).bind fun r6 =>
      .ok (some r6)) (.ok none)) xs3).bind fun ys7 =>
  (z1 .len r1).bind fun r8 =>
  zrec .count (D.lst ys7) <|
  (zval (pm .count (D.lst ys7) (D.str "Y"))).bind fun r9 =>
  zrec .count (D.lst ys7) <|
  (zval (pm .count (D.lst ys7) (D.str "N"))).bind fun r10 =>
  zrec .count (D.lst ys7) <|
  (zval (pm .count (D.lst ys7) (D.str "P"))).bind fun r11 =>
  .ok (D.tup [r8, r9, r10, r11])
/-- <lam22>(chamber, seats, roll_call) -/
def f_lam_passes (chamber : D) (seats : D) (roll_call : D) : Z (D) :=
  (f_tally seats roll_call chamber).bind fun r1 =>
  .ok r1
/-- evaluate(rule, tally_at, premier_agrees, parameters) -/
def f_evaluate : Nat → D → (D → Z D) → D → D → Z (D)
  | 0, _, _, _, _ => .no
  | fuel + 1, rule, tally_at, premier_agrees, parameters =>
    (z2 .ix rule (D.int 0)).bind fun r1 =>
    (z2 .eq r1 (D.str "premier")).bind fun r2 =>
    zite r2 (
    .ok premier_agrees) (
    (z2 .nin r1 (D.tup [(D.str "all"), (D.str "any")])).bind fun r3 =>
      zite r3 (
      (z2 .ix rule (D.int 1)).bind fun r4 =>
        (tally_at r4).nox.bind fun r5 =>
        (f_simple_passes rule r5 parameters).bind fun r6 =>
        .ok r6) (
      (z2 .ix rule (D.int 1)).bind fun r7 =>
        (f_evaluate fuel r7 tally_at premier_agrees parameters).bind fun r8 =>
        (z2 .ix rule (D.int 2)).bind fun r9 =>
        (f_evaluate fuel r9 tally_at premier_agrees parameters).bind fun r10 =>
        (z2 .eq r1 (D.str "all")).bind fun r11 =>
        (zite r11 ((zand r8 (.ok r10)).bind fun r14 =>
          .ok r14) ((zor r8 (.ok r10)).bind fun r15 =>
          .ok r15)).bind fun s16 =>
        .ok s16))
/-- passes(rule, seats, roll_call, parameters, premier) -/
def f_passes (rule : D) (seats : D) (roll_call : D) (parameters : D) (premier : D) : Z (D) :=
  (z1 .notN premier).bind fun r1 =>
  (zand r1 ((f_vote_of roll_call premier).bind fun r2 =>
    (z2 .eq r2 (D.str "Y")).bind fun r3 =>
    .ok r3)).bind fun r4 =>
  (f_evaluate 30 rule (fun x0 => f_lam_passes x0 seats roll_call) r4 parameters).nox.bind fun r5 =>
  .ok r5
end G
namespace G
open PySem L2
variable {γ : Type}
/-! ### roll calls of four votes -/
inductive Vt where
  | y | n | p | a
  deriving DecidableEq, Inhabited
def Vt.s : Vt → Str
  | .y => "Y"
  | .n => "N"
  | .p => "P"
  | .a => "-"
def Vt.c : Vt → Nat
  | .y => 89
  | .n => 78
  | .p => 80
  | .a => 45
def rolS (vs : List Vt) : Str := Txt.join "" (vs.map Vt.s)
theorem join_cps (l : List Str) : (Txt.join "" l).cps.toList = l.flatMap fun p => p.cps.toList := by
  cases l with
  | nil => rfl
  | cons p l =>
    show ((l.foldl (fun acc p => acc ++ ("" : Str).cps ++ p.cps) p.cps).toList) = _
    rw [glue_fold, List.flatMap_cons]
theorem rol_cps (vs : List Vt) : (rolS vs).cps.toList = vs.map Vt.c := by
  have e : ∀ b : Vt, b.s.cps.toList = [b.c] := fun b => by cases b <;> rfl
  unfold rolS
  rw [join_cps]
  induction vs with
  | nil => rfl
  | cons b bs ih => rw [List.map_cons, List.flatMap_cons, ih, e]; rfl
theorem rol_len (vs : List Vt) : (rolS vs).length = vs.length := by
  have := congrArg List.length (rol_cps vs)
  rw [List.length_map, Array.length_toList] at this
  exact this
theorem len_rol {vs : List Vt} (h : vs.length ≤ 1000) : z1 .len (.str (rolS vs)) = .ok (.int vs.length) := by
  have hz := SZ2
  rw [len_s (by rw [rol_len]; omega), rol_len]
/-- the vote of a member; behind the end of the roll call everybody is absent -/
def vt (vs : List Vt) (i : Nat) : Vt := vs.getD i .a
theorem ix_rol {vs : List Vt} {i : Nat} (hl : vs.length ≤ 1000) (h : i < vs.length) : z2 .ix (.str (rolS vs)) (.int i) = .ok (.str (vt vs i).s) := by
  have hz := SZ2
  have h2 : i < (rolS vs).cps.toList.length := by rw [rol_cps, List.length_map]; exact h
  have e : (rolS vs).cps.toList[i]? = some (vt vs i).c := by
    unfold vt
    rw [rol_cps, List.getElem?_map, List.getElem?_eq_getElem h, List.getD_eq_getElem?_getD, List.getElem?_eq_getElem h]
    rfl
  unfold z2 p2 pIx atI
  dsimp only
  rw [if_pos (by rw [rol_len]; omega), ixN_nat h2]
  simp only [Option.bind_some, e, Option.map_some, zval]
  cases vt vs i <;> rfl
theorem vote_of_ok {vs : List Vt} {i : Nat} (hl : vs.length ≤ 1000) : f_vote_of (.str (rolS vs)) (.int i) = .ok (.str (vt vs i).s) := by
  unfold f_vote_of
  rw [len_rol hl, bind_ok', lt_i, bind_ok', ite_b]
  by_cases q : i < vs.length
  · rw [if_pos (by simp; omega), ix_rol hl q, bind_ok', bind_ok']
  · rw [if_neg (by simp; omega), bind_ok']
    unfold vt
    rw [List.getD_eq_getElem?_getD, List.getElem?_eq_none (by omega)]
    rfl
theorem vts_inj : ∀ {x y : Vt}, x.s = y.s ↔ x = y := by
  intro x y
  constructor
  · intro h
    have e : ∀ b : Vt, b.s.cps.toList = [b.c] := fun b => by cases b <;> rfl
    have := congrArg (fun s : Str => s.cps.toList) h
    simp only [e] at this
    cases x <;> cases y <;> first | rfl | (simp [Vt.c] at this)
  · rintro rfl; rfl
theorem eq_vt {x y : Vt} : z2 .eq (.str x.s) (.str y.s) = .ok (.bl (decide (x = y))) := by
  rw [eq_s]
  congr 2
  exact decide_eq_decide.mpr vts_inj
theorem ne_vt {x y : Vt} : z2 .ne (.str x.s) (.str y.s) = .ok (.bl (!decide (x = y))) := by
  rw [ne_s]
  congr 2
  by_cases h : x = y
  · subst h; simp
  · simp [h, mt vts_inj.mp h]
/-- the votes of the seats that are held -/
def vsL (vs : List Vt) (l : Ch) : List Vt := l.filterMap fun o => o.map (vt vs)
/-- how many seats vote so -/
def cvt (vs : List Vt) (v : Vt) (l : Ch) : Nat := (vsL vs l).countP fun x => decide (x = v)
theorem vsL_le {vs : List Vt} {l : Ch} : (vsL vs l).length ≤ l.length := List.length_filterMap_le _ _
theorem cvt_sum {vs : List Vt} {l : Ch} : cvt vs .y l + cvt vs .n l + cvt vs .p l ≤ l.length := by
  refine Nat.le_trans ?_ (vsL_le (vs := vs))
  unfold cvt
  induction vsL vs l with
  | nil => simp
  | cons v ws ih =>
    simp only [List.countP_cons, List.length_cons]
    cases v <;> simp <;> omega
theorem count_ok {ws : List Vt} {v : Vt} : pm .count (.lst (ws.map fun w => D.str w.s)) (.str v.s) = some (.val (.int (ws.countP fun x => decide (x = v) : Nat))) := by
  unfold pm pCount
  have hf : (flatD (.str v.s) && (ws.map fun w => D.str w.s).all flatD) = true := by
    rw [Bool.and_eq_true]
    refine ⟨rfl, List.all_eq_true.mpr fun d hd => ?_⟩
    obtain ⟨w, _, rfl⟩ := List.mem_map.mp hd
    rfl
  dsimp only
  rw [if_pos hf, List.countP_map]
  congr 4
  refine List.countP_congr fun w _ => ?_
  have : eqF (.str w.s) (.str v.s) = decide (w.s = v.s) := by
    simp only [eqF]
    first | rfl | (by_cases h : w.s = v.s <;> simp [h])
  show eqF (.str w.s) (.str v.s) = true ↔ _
  rw [this, decide_eq_true_eq, decide_eq_true_eq]
  exact vts_inj
/-- the program's tally -/
theorem tally_ok {S : Se} {vs : List Vt} {c : Nat} (hb : vs.length ≤ 1000) (hl : (hold S c).length ≤ 1000) : f_tally (se S) (.str (rolS vs)) (.int c) = .ok (cts (hold S c).length (cvt vs .y (hold S c)) (cvt vs .n (hold S c)) (cvt vs .p (hold S c))) := by
  have hz := SZ2
  unfold f_tally
  rw [holders_of_ok, bind_ok', show itD .seq [ch (hold S c)] = .ok ((hold S c).map ho) from rfl, bind_ok', comp_eq ho (fun o => o.map fun x => D.str (vt vs x).s) (by omega) (fun o _ => by
    cases o with
    | none =>
      show (z1 .notN .non).bind _ = _
      rw [noN_n, bind_ok', ite_b, if_neg (by decide)]
      rfl
    | some x =>
      show (z1 .notN (.int x)).bind _ = _
      rw [noN_i, bind_ok', ite_b, if_pos rfl]
      show (f_vote_of (.str (rolS vs)) (.int x)).bind _ = _
      rw [vote_of_ok hb, bind_ok']
      rfl), bind_ok', len_ch, bind_ok']
  have e : (hold S c).filterMap (fun o => o.map fun x => D.str (vt vs x).s) = (vsL vs (hold S c)).map fun w => D.str w.s := by
    unfold vsL
    rw [List.map_filterMap]
    congr 1
    funext o
    cases o <;> rfl
  rw [e]
  have zr : ∀ (m : Z D), zrec .count (D.lst ((vsL vs (hold S c)).map fun w => D.str w.s)) m = m := fun m => if_pos rfl
  have cn : ∀ v : Vt, zval (pm .count (D.lst ((vsL vs (hold S c)).map fun w => D.str w.s)) (D.str v.s)) = .ok (.int (cvt vs v (hold S c) : Nat)) := fun v => by rw [count_ok]; rfl
  rw [zr, show ("Y" : Str) = Vt.y.s from rfl, cn, bind_ok', zr, show ("N" : Str) = Vt.n.s from rfl, cn, bind_ok', zr, show ("P" : Str) = Vt.p.s from rfl, cn, bind_ok']
  rfl
/-! ### the law's tally -/
def Vt.i : Vt → Nat
  | .y => 0
  | .n => 1
  | _ => 2
theorem idx_vt {v : Vt} (h : v ≠ .a) : zval (pm .sidx (.str "YNP") (.str v.s)) = .ok (.int v.i) := by
  have h1 : Txt.index0 "YNP" "Y" = some 0 := by decide +kernel
  have h2 : Txt.index0 "YNP" "N" = some 1 := by decide +kernel
  have h3 : Txt.index0 "YNP" "P" = some 2 := by decide +kernel
  cases v with
  | y => show zval ((Txt.index0 "YNP" "Y").map _) = _; rw [h1]; rfl
  | n => show zval ((Txt.index0 "YNP" "N").map _) = _; rw [h2]; rfl
  | p => show zval ((Txt.index0 "YNP" "P").map _) = _; rw [h3]; rfl
  | a => exact absurd rfl h
theorem cs_2 {a b c : Nat} : zst (nl [a, b, c]) (.int 2) (.int ((c : Int) + 1)) = .ok (nl [a, b, c + 1]) := st_ok (k := 2) (by rw [nl_len]; exact Nat.le_of_ble_eq_true rfl)
/-- what one seat adds -/
def up3 (v : Option Vt) (y n p : Nat) : List Nat := match v with
  | some .y => [y + 1, n, p]
  | some .n => [y, n + 1, p]
  | some .p => [y, n, p + 1]
  | _ => [y, n, p]
theorem idx_step4 {v : Vt} {y n p : Nat} (h : v ≠ .a) : ((zval (pm .sidx (D.str "YNP") (D.str v.s))).bind fun r16 => (z2 .ix (D.lst (nl [y, n, p])) r16).bind fun r17 => (z2 .add r17 (D.int 1)).bind fun r18 => (zst (nl [y, n, p]) r16 r18).bind fun l19 => .ok l19) = .ok (nl (up3 (some v) y n p)) := by
  rw [idx_vt h, bind_ok']
  cases v with
  | y => show (z2 .ix (D.lst (nl [y, n, p])) (.int 0)).bind _ = _; rw [cl_0, bind_ok', add_i, bind_ok']; show (zst (nl [y, n, p]) (.int 0) _).bind _ = _; rw [cs_0]; rfl
  | n => show (z2 .ix (D.lst (nl [y, n, p])) (.int 1)).bind _ = _; rw [cl_1, bind_ok', add_i, bind_ok']; show (zst (nl [y, n, p]) (.int 1) _).bind _ = _; rw [cs_1]; rfl
  | p => show (z2 .ix (D.lst (nl [y, n, p])) (.int 2)).bind _ = _; rw [cl_2, bind_ok', add_i, bind_ok']; show (zst (nl [y, n, p]) (.int 2) _).bind _ = _; rw [cs_2]; rfl
  | a => exact absurd rfl h
theorem tally_fold4 {vs : List Vt} {F : D → List D → Z (List D)} (h : ∀ (o : Option Nat) y n p, F (ho o) (nl [y, n, p]) = .ok (nl (up3 (o.map (vt vs)) y n p))) : ∀ (l : Ch) (y n p : Nat), foldZ F (l.map ho) (nl [y, n, p]) = .ok (nl [y + cvt vs .y l, n + cvt vs .n l, p + cvt vs .p l])
  | [], y, n, p => rfl
  | o :: l, y, n, p => by
    have hc : ∀ v, cvt vs v (o :: l) = cvt vs v l + if o.map (vt vs) = some v then 1 else 0 := by
      intro v
      unfold cvt vsL
      rw [List.filterMap_cons]
      cases o with
      | none => simp
      | some x => simp [List.countP_cons]
    rw [List.map_cons]
    simp only [foldZ]
    rw [h, bind_ok', hc .y, hc .n, hc .p]
    cases ho : o.map (vt vs) with
    | none =>
      show foldZ F (l.map _) (nl [y, n, p]) = _
      rw [tally_fold4 h l]
      simp
    | some v =>
      cases v with
      | y =>
        show foldZ F (l.map _) (nl [y + 1, n, p]) = _
        rw [tally_fold4 h l]
        simp [Nat.add_assoc, Nat.add_comm 1]
      | n =>
        show foldZ F (l.map _) (nl [y, n + 1, p]) = _
        rw [tally_fold4 h l]
        simp [Nat.add_assoc, Nat.add_comm 1]
      | p =>
        show foldZ F (l.map _) (nl [y, n, p + 1]) = _
        rw [tally_fold4 h l]
        simp [Nat.add_assoc, Nat.add_comm 1]
      | a =>
        show foldZ F (l.map _) (nl [y, n, p]) = _
        rw [tally_fold4 h l]
        simp
theorem law_tally_ok {S : Se} {vs : List Vt} {c : Nat} (hb : vs.length ≤ 1000) : f_law_tally (se S) (.str (rolS vs)) (.int c) = .ok (cts (hold S c).length (cvt vs .y (hold S c)) (cvt vs .n (hold S c)) (cvt vs .p (hold S c))) := by
  unfold f_law_tally
  rw [len_se, bind_ok', ge_i, bind_ok', ite_b]
  by_cases q : c < S.length
  · rw [if_neg (by simp; omega), ix_se q, bind_ok', show itD .seq [ch (hold S c)] = .ok ((hold S c).map ho) from rfl, bind_ok', show ([D.int 0, D.int 0, D.int 0] : List D) = nl [0, 0, 0] from rfl, tally_fold4 (vs := vs) (fun o y n p => ?_) _ 0 0 0, bind_ok', bind_ok', len_ch, bind_ok', cl_0, bind_ok', cl_1, bind_ok', cl_2, bind_ok', Nat.zero_add, Nat.zero_add, Nat.zero_add]
    · rfl
    · cases o with
      | none =>
        show (z1 .notN .non).bind _ = _
        rw [noN_n, bind_ok', and_b, if_neg (by decide), bind_ok', ite_b, if_neg (by decide)]
        rfl
      | some x =>
        show (z1 .notN (.int x)).bind _ = _
        rw [noN_i, bind_ok', and_b, if_pos rfl]
        show (((z1 .len (.str (rolS vs))).bind fun r9 => (z2 .lt (.int x) r9).bind fun r10 => _).bind _) = _
        rw [len_rol hb, bind_ok', lt_i, bind_ok', and_b]
        by_cases hx : x < vs.length
        · rw [if_pos (by simp; omega)]
          show ((((z2 .ix (.str (rolS vs)) (.int x)).bind _).bind _).bind _) = _
          rw [ix_rol hb hx, bind_ok', show ("-" : Str) = Vt.a.s from rfl, ne_vt, bind_ok', bind_ok', bind_ok', ite_b]
          by_cases ha : vt vs x = .a
          · rw [if_neg (by simp [ha])]
            show _ = Z.ok (nl (up3 (some (vt vs x)) y n p))
            rw [ha]
            rfl
          · rw [if_pos (by simp [ha]), zrec_yn]
            show (z2 .ix (.str (rolS vs)) (.int x)).bind _ = _
            rw [ix_rol hb hx, bind_ok']
            exact idx_step4 ha
        · rw [if_neg (by simp; omega), bind_ok', bind_ok', ite_b, if_neg (by decide)]
          have : vt vs x = .a := by
            unfold vt
            rw [List.getD_eq_getElem?_getD, List.getElem?_eq_none (by omega)]
            rfl
          show _ = Z.ok (nl (up3 (some (vt vs x)) y n p))
          rw [this]
          rfl
  · have e : hold S c = [] := by rw [hold, List.getD_eq_getElem?_getD, List.getElem?_eq_none (by omega)]; rfl
    rw [if_pos (by simp; omega), e]
    rfl
end G
namespace G
open PySem L2
/-! ### whether a rule passes, by the tallies -/
abbrev T4 := Nat × Nat × Nat × Nat
def smT (ps : List Nat) (t : T4) (r : Rul) : Bool := smp ps t.1 t.2.1 t.2.2.1 t.2.2.2 r
def ctT (t : T4) : D := cts t.1 t.2.1 t.2.2.1 t.2.2.2
def evR (ps : List Nat) (T : Nat → T4) (b : Bool) : Rul → Bool
  | .prem => b
  | .all x y => evR ps T b x && evR ps T b y
  | .any x y => evR ps T b x || evR ps T b y
  | .yeas c th => smT ps (T c) (.yeas c th)
  | .quo c th => smT ps (T c) (.quo c th)
  | .maj c s => smT ps (T c) (.maj c s)
  | .frac c p q s => smT ps (T c) (.frac c p q s)
/-- counts of some size -/
def Tk (T : Nat → T4) : Prop := ∀ c, (T c).1 ≤ 1000 ∧ (T c).2.1 + (T c).2.2.1 + (T c).2.2.2 ≤ 3000
section
variable {ps : List Nat} {T : Nat → T4} {b : Bool}
theorem evR_one {r : Rul} {c : Nat} (h : r.one = some c) : evR ps T b r = smT ps (T c) r := by
  cases r <;> first | (cases h; done) | (cases h; rfl)
theorem ev_simple {f : D → Z D} (hf : ∀ c : Nat, f (.int c) = .ok (ctT (T c))) (hT : Tk T) {r : Rul} {c : Nat} (h : r.one = some c) :
    ((z2 .ix (rlD r) (D.int 1)).bind fun r4 => (f r4).nox.bind fun r5 => (f_simple_passes (rlD r) r5 (tr ps)).bind fun r6 => .ok r6) = .ok (.bl (evR ps T b r)) := by
  rw [rl_one h, bind_ok', hf]
  show ((f_simple_passes (rlD r) (ctT (T c)) (tr ps)).bind _) = _
  unfold ctT
  rw [simple_ok h (hT c).1 (hT c).2, bind_ok', evR_one h]
  rfl
theorem evaluate_ok {f : D → Z D} (hf : ∀ c : Nat, f (.int c) = .ok (ctT (T c))) (hT : Tk T) : ∀ (r : Rul) (fuel : Nat), r.dep ≤ fuel → f_evaluate fuel (rlD r) f (.bl b) (tr ps) = .ok (.bl (evR ps T b r))
  | r, 0, h => by cases r <;> simp [Rul.dep] at h
  | .prem, fuel + 1, _ => by
    simp only [f_evaluate, rlD]
    rw [ixq0, bind_ok', sq_premier_premier, bind_ok', ite_b, if_pos rfl]
    rfl
  | .yeas c th, fuel + 1, _ => by
    simp only [f_evaluate]
    rw [show z2 .ix (rlD (.yeas c th)) (.int 0) = .ok (.str "yeas") from ixq0, bind_ok', sq_yeas_premier, bind_ok', ite_b, if_neg (by decide), sn_yeas, bind_ok', ite_b, if_pos rfl]
    exact ev_simple (r := .yeas c th) hf hT rfl
  | .quo c th, fuel + 1, _ => by
    simp only [f_evaluate]
    rw [show z2 .ix (rlD (.quo c th)) (.int 0) = .ok (.str "quorum") from ixq0, bind_ok', sq_quorum_premier, bind_ok', ite_b, if_neg (by decide), sn_quorum, bind_ok', ite_b, if_pos rfl]
    exact ev_simple (r := .quo c th) hf hT rfl
  | .maj c s, fuel + 1, _ => by
    simp only [f_evaluate]
    rw [show z2 .ix (rlD (.maj c s)) (.int 0) = .ok (.str "majority") from ixq0, bind_ok', sq_majority_premier, bind_ok', ite_b, if_neg (by decide), sn_majority, bind_ok', ite_b, if_pos rfl]
    exact ev_simple (r := .maj c s) hf hT rfl
  | .frac c p q s, fuel + 1, _ => by
    simp only [f_evaluate]
    rw [show z2 .ix (rlD (.frac c p q s)) (.int 0) = .ok (.str "fraction") from ixq0, bind_ok', sq_fraction_premier, bind_ok', ite_b, if_neg (by decide), sn_fraction, bind_ok', ite_b, if_pos rfl]
    exact ev_simple (r := .frac c p q s) hf hT rfl
  | .all x y, fuel + 1, h => by
    simp only [Rul.dep] at h
    simp only [f_evaluate, rlD]
    rw [ixq0, bind_ok', sq_all_premier, bind_ok', ite_b, if_neg (by decide), sn_all, bind_ok', ite_b, if_neg (by decide), ixq1, bind_ok', evaluate_ok hf hT x fuel (by omega), bind_ok', ixq2, bind_ok', evaluate_ok hf hT y fuel (by omega), bind_ok', sq_all_all, bind_ok', ite_b, if_pos rfl, and_b]
    simp only [evR]
    cases evR ps T b x <;> rfl
  | .any x y, fuel + 1, h => by
    simp only [Rul.dep] at h
    simp only [f_evaluate, rlD]
    rw [ixq0, bind_ok', sq_any_premier, bind_ok', ite_b, if_neg (by decide), sn_any, bind_ok', ite_b, if_neg (by decide), ixq1, bind_ok', evaluate_ok hf hT x fuel (by omega), bind_ok', ixq2, bind_ok', evaluate_ok hf hT y fuel (by omega), bind_ok', sq_any_all, bind_ok', ite_b, if_neg (by decide), or_b]
    simp only [evR]
    cases evR ps T b x <;> rfl
end
/-! ### with a roll call -/
def tlR (S : Se) (vs : List Vt) (c : Nat) : T4 := ((hold S c).length, cvt vs .y (hold S c), cvt vs .n (hold S c), cvt vs .p (hold S c))
theorem tk_tl {S : Se} {vs : List Vt} (h : ∀ c, (hold S c).length ≤ 1000) : Tk (tlR S vs) := fun c => ⟨h c, Nat.le_trans cvt_sum (Nat.le_trans (h c) (by omega))⟩
def prB (vs : List Vt) : Option Nat → Bool
  | none => false
  | some l => decide (vt vs l = .y)
section
variable {ps : List Nat} {S : Se} {vs : List Vt} {ld : Option Nat}
theorem passes_okR (hb : vs.length ≤ 1000) (hS : ∀ c, (hold S c).length ≤ 1000) {r : Rul} (h : r.dep ≤ 30) : f_passes (rlD r) (se S) (.str (rolS vs)) (tr ps) (ho ld) = .ok (.bl (evR ps (tlR S vs) (prB vs ld) r)) := by
  have hf : ∀ c : Nat, f_lam_passes (.int c) (se S) (.str (rolS vs)) = .ok (ctT (tlR S vs c)) := fun c => by
    unfold f_lam_passes
    rw [tally_ok hb (hS c), bind_ok']
    rfl
  unfold f_passes
  have e : ((z1 .notN (ho ld)).bind fun r1 => zand r1 ((f_vote_of (.str (rolS vs)) (ho ld)).bind fun r2 => (z2 .eq r2 (D.str "Y")).bind fun r3 => .ok r3)) = .ok (.bl (prB vs ld)) := by
    cases ld with
    | none =>
      show (z1 .notN .non).bind _ = _
      rw [noN_n, bind_ok', and_b, if_neg (by decide)]
      rfl
    | some l =>
      show (z1 .notN (.int l)).bind _ = _
      rw [noN_i, bind_ok', and_b, if_pos rfl]
      show (f_vote_of (.str (rolS vs)) (.int l)).bind _ = _
      rw [vote_of_ok hb, bind_ok', show ("Y" : Str) = Vt.y.s from rfl, eq_vt, bind_ok']
      rfl
  have e2 : ∀ (g : D → Z D), ((z1 .notN (ho ld)).bind fun r1 => (zand r1 ((f_vote_of (.str (rolS vs)) (ho ld)).bind fun r2 => (z2 .eq r2 (D.str "Y")).bind fun r3 => .ok r3)).bind g) = g (.bl (prB vs ld)) := fun g => by
    rw [← bind_ok' (f := g), ← e]
    cases z1 .notN (ho ld) <;> rfl
  rw [e2, evaluate_ok hf (tk_tl hS) r 30 h]
  rfl
theorem one_okR {r : Rul} {c : Nat} (h : r.one = some c) (hb : vs.length ≤ 1000) (hS : ∀ c, (hold S c).length ≤ 1000) {b : Bool} :
    ((f_law_tally (se S) (.str (rolS vs)) (.int c)).bind fun r24 => f_law_by_counts (rlD r) r24 (tr ps)) = .ok (.bl (evR ps (tlR S vs) b r)) := by
  rw [law_tally_ok hb, bind_ok', by_counts_ok h (hS c) (Nat.le_trans cvt_sum (Nat.le_trans (hS c) (by omega))), evR_one h]
  rfl
theorem law_passes_okR (hb : vs.length ≤ 1000) (hS : ∀ c, (hold S c).length ≤ 1000) : ∀ (r : Rul) (fuel : Nat), r.dep ≤ fuel →
    f_law_passes_11 fuel (rlD r) (se S) (.str (rolS vs)) (tr ps) (ho ld) = .ok (.bl (evR ps (tlR S vs) (prB vs ld) r))
  | r, 0, h => by cases r <;> simp [Rul.dep] at h
  | .prem, fuel + 1, _ => by
    simp only [f_law_passes_11, rlD]
    rw [ixq0, bind_ok', sq_premier_premier, bind_ok', ite_b, if_pos rfl]
    cases ld with
    | none => rfl
    | some l =>
      show (z1 .notN (.int l)).bind _ = _
      rw [noN_i, bind_ok', and_b, if_pos rfl, len_rol hb, bind_ok']
      show (((z2 .lt (.int l) (.int vs.length)).bind _).bind _) = _
      rw [lt_i, bind_ok', and_b]
      by_cases q : l < vs.length
      · rw [if_pos (by simp; omega)]
        show ((((z2 .ix (.str (rolS vs)) (.int l)).bind _).bind _).bind _) = _
        rw [ix_rol hb q, bind_ok', show ("Y" : Str) = Vt.y.s from rfl, eq_vt, bind_ok', bind_ok', bind_ok']
        rfl
      · rw [if_neg (by simp; omega), bind_ok', bind_ok']
        have : vt vs l = .a := by
          unfold vt
          rw [List.getD_eq_getElem?_getD, List.getElem?_eq_none (by omega)]
          rfl
        simp only [evR, prB, this]
        rfl
  | .yeas c th, fuel + 1, _ => by
    have e := one_okR (r := .yeas c th) (S := S) (vs := vs) (ps := ps) (b := prB vs ld) rfl hb hS
    simp only [f_law_passes_11]
    rw [show z2 .ix (rlD (.yeas c th)) (.int 0) = .ok (.str "yeas") from ixq0, bind_ok', sq_yeas_premier, bind_ok', ite_b, if_neg (by decide), bind_ok', sq_yeas_all, bind_ok', or_b, if_neg (by decide), bind_ok', sq_yeas_any, bind_ok', bind_ok', ite_b, if_neg (by decide), rl_one (r := .yeas c th) rfl, bind_ok']
    rw [← e]
    cases f_law_tally (se S) (.str (rolS vs)) (.int c) <;> first | rfl | exact bind_id
  | .quo c th, fuel + 1, _ => by
    have e := one_okR (r := .quo c th) (S := S) (vs := vs) (ps := ps) (b := prB vs ld) rfl hb hS
    simp only [f_law_passes_11]
    rw [show z2 .ix (rlD (.quo c th)) (.int 0) = .ok (.str "quorum") from ixq0, bind_ok', sq_quorum_premier, bind_ok', ite_b, if_neg (by decide), bind_ok', sq_quorum_all, bind_ok', or_b, if_neg (by decide), bind_ok', sq_quorum_any, bind_ok', bind_ok', ite_b, if_neg (by decide), rl_one (r := .quo c th) rfl, bind_ok']
    rw [← e]
    cases f_law_tally (se S) (.str (rolS vs)) (.int c) <;> first | rfl | exact bind_id
  | .maj c s, fuel + 1, _ => by
    have e := one_okR (r := .maj c s) (S := S) (vs := vs) (ps := ps) (b := prB vs ld) rfl hb hS
    simp only [f_law_passes_11]
    rw [show z2 .ix (rlD (.maj c s)) (.int 0) = .ok (.str "majority") from ixq0, bind_ok', sq_majority_premier, bind_ok', ite_b, if_neg (by decide), bind_ok', sq_majority_all, bind_ok', or_b, if_neg (by decide), bind_ok', sq_majority_any, bind_ok', bind_ok', ite_b, if_neg (by decide), rl_one (r := .maj c s) rfl, bind_ok']
    rw [← e]
    cases f_law_tally (se S) (.str (rolS vs)) (.int c) <;> first | rfl | exact bind_id
  | .frac c p q s, fuel + 1, _ => by
    have e := one_okR (r := .frac c p q s) (S := S) (vs := vs) (ps := ps) (b := prB vs ld) rfl hb hS
    simp only [f_law_passes_11]
    rw [show z2 .ix (rlD (.frac c p q s)) (.int 0) = .ok (.str "fraction") from ixq0, bind_ok', sq_fraction_premier, bind_ok', ite_b, if_neg (by decide), bind_ok', sq_fraction_all, bind_ok', or_b, if_neg (by decide), bind_ok', sq_fraction_any, bind_ok', bind_ok', ite_b, if_neg (by decide), rl_one (r := .frac c p q s) rfl, bind_ok']
    rw [← e]
    cases f_law_tally (se S) (.str (rolS vs)) (.int c) <;> first | rfl | exact bind_id
  | .all x y, fuel + 1, h => by
    simp only [Rul.dep] at h
    simp only [f_law_passes_11, rlD]
    rw [ixq0, bind_ok', sq_all_premier, bind_ok', ite_b, if_neg (by decide), bind_ok', sq_all_all, bind_ok', or_b, if_pos rfl, bind_ok', ite_b, if_pos rfl, ixq1, bind_ok', law_passes_okR hb hS x fuel (by omega), bind_ok', ixq2, bind_ok', law_passes_okR hb hS y fuel (by omega), bind_ok', bind_ok', sq_all_all, bind_ok', ite_b, if_pos rfl, and_b]
    simp only [evR]
    cases evR ps (tlR S vs) (prB vs ld) x <;> rfl
  | .any x y, fuel + 1, h => by
    simp only [Rul.dep] at h
    simp only [f_law_passes_11, rlD]
    rw [ixq0, bind_ok', sq_any_premier, bind_ok', ite_b, if_neg (by decide), bind_ok', sq_any_all, bind_ok', or_b, if_neg (by decide), bind_ok', sq_any_any, bind_ok', bind_ok', ite_b, if_pos rfl, ixq1, bind_ok', law_passes_okR hb hS x fuel (by omega), bind_ok', ixq2, bind_ok', law_passes_okR hb hS y fuel (by omega), bind_ok', bind_ok', sq_any_all, bind_ok', ite_b, if_neg (by decide), or_b]
    simp only [evR]
    cases evR ps (tlR S vs) (prB vs ld) x <;> rfl
end
end G
namespace G
open PySem L2
/-! ### drawn roll calls, rules -/
theorem joinV_ok {vs : List Vt} (h : vs.length ≤ 1000) : zval (pm .join (.str "") (.lst (vs.map fun b => D.str b.s))) = .ok (.str (rolS vs)) := by
  have hz := SZ2
  have e1 : ((vs.map Vt.s).map (·.length)).sum = vs.length := by
    have hb : ∀ b : Vt, b.s.length = 1 := fun b => by cases b <;> rfl
    clear h
    induction vs with
    | nil => rfl
    | cons v vs ih =>
      have := hb v
      simp only [List.map_cons, List.sum_cons, List.length_cons, ih, this]
      omega
  have l0 : ("" : Str).length = 0 := rfl
  have e2 : (vs.map fun b => D.str b.s) = (vs.map Vt.s).map .str := by rw [List.map_map]; rfl
  unfold pm pJoin
  dsimp only
  rw [e2, strsD_map]
  dsimp only
  rw [if_pos (by rw [e1, l0, List.length_map]; omega)]
  rfl
theorem menu6 : ("YYNNP-" : Str) = rolS [.y, .y, .n, .n, .p, .a] := by rfl
theorem roll_draw {t : List D} (ht : Tp t) {m : Nat} (hm : m ≤ 100) : Zw (f_law_roll t (.int m)) fun r => (∃ vs : List Vt, r.1 = .str (rolS vs) ∧ vs.length = m) ∧ Tp r.2 := by
  have hz := SZ2
  unfold f_law_roll
  rw [show ∀ (m : Z (D × List D)), zrec .join (D.str "") m = m from fun _ => rfl, rngN (by omega), bind_ok']
  refine zc (zw_mapS_all (fun d => ∃ v : Vt, d = .str v.s ∧ True) Tp (by simp; omega) ht fun d _ s hs => zd hs (by omega) (by omega) fun v t hv ht => ?_) fun p hp => ?_
  · dsimp only
    rw [menu6, ix_rol (by decide) (by show v < 6; omega), bind_ok']
    exact zw_ok.mpr ⟨⟨_, rfl, trivial⟩, ht⟩
  · obtain ⟨a, t⟩ := p
    obtain ⟨h1, h2, h3⟩ := hp
    obtain ⟨vs, e, _⟩ := enc_of (enc := fun v : Vt => D.str v.s) (P := fun _ => True) h2
    simp only at e h1 h3
    subst e
    have hl : vs.length = m := by simpa using h1
    dsimp only
    rw [joinV_ok (by omega), bind_ok']
    exact zw_ok.mpr ⟨⟨vs, rfl, hl⟩, h3⟩
theorem ne_of_eq {a b : D} {k : Bool} (h : z2 .eq a b = .ok (.bl k)) : z2 .ne a b = .ok (.bl !k) := by
  unfold z2 p2 at h ⊢
  dsimp only at h ⊢
  cases e : eqD a b with
  | none => rw [e] at h; cases h
  | some j =>
    rw [e] at h
    cases h
    rfl
theorem plainB {n : Nat} {b : Bool} : plain n (.bl b) := by cases n <;> trivial
theorem same_bl {b : Bool} : f_law_same 30 (.bl b) (.bl b) = .ok (.bl true) := same_refl 29 _ plainB
/-- what kind of rule -/
def Rul.kd : Rul → Str
  | .prem => "premier"
  | .yeas _ _ => "yeas"
  | .quo _ _ => "quorum"
  | .maj _ _ => "majority"
  | .frac _ _ _ _ => "fraction"
  | .all _ _ => "all"
  | .any _ _ => "any"
def Rul.fr : Rul → Prop
  | .frac _ p q _ => p ≤ q
  | _ => True
def KS : List Str := ["yeas", "majority", "fraction", "quorum", "premier"]
/-- what is drawn as one rule: kinds, chambers -/
def Leaf (cs : List Nat) (ks : List Str) (r : Rul) : Prop := r.kd ∈ ks ∧ (r = .prem ∨ ∃ c, r.one = some c ∧ c ∈ cs) ∧ r.fr
theorem Leaf.dep {cs : List Nat} {ks : List Str} {r : Rul} (h : Leaf cs ks r) : r.dep = 1 := by
  rcases h.2.1 with rfl | ⟨c, e, _⟩
  · rfl
  · cases r <;> first | rfl | (cases e; done)
theorem shOf {d : D} (hd : d ∈ [(D.str "seats"), (D.str "attending"), (D.str "voting")]) : ∃ s : RSh, d = shD s := by
  simp only [List.mem_cons, List.not_mem_nil, or_false] at hd
  rcases hd with rfl | rfl | rfl
  · exact ⟨.seats, rfl⟩
  · exact ⟨.att, rfl⟩
  · exact ⟨.vot, rfl⟩
theorem leaf_draw {t : List D} (ht : Tp t) {cs : List Nat} {ks : List Str} (h1 : 0 < cs.length) (h2 : cs.length ≤ 1000) (h3 : 0 < ks.length) (h4 : ks.length ≤ 1000) (hk : ∀ k ∈ ks, k ∈ KS) :
    Zw (f_law_simple t (D.lst (nl cs)) (D.lst (ks.map .str))) fun r => (∃ r' : Rul, r.1 = rlD r' ∧ Leaf cs ks r') ∧ Tp r.2 := by
  have hz := SZ2
  unfold f_law_simple
  rw [len_l, bind_ok', nl_len]
  refine zd ht (by omega) (by omega) fun a t ha ht => ?_
  dsimp only
  have ha : a < cs.length := by omega
  rw [show z2 .ix (.lst (nl cs)) (.int a) = .ok (.int (cs[a] : Nat)) from ix_l (by simp [nl, List.getElem?_eq_getElem ha]), bind_ok', len_l, bind_ok', List.length_map]
  have hc : cs[a] ∈ cs := List.getElem_mem ha
  generalize cs[a] = c at hc
  refine zd ht (by omega) (by omega) fun b t hb ht => ?_
  dsimp only
  have hb : b < ks.length := by omega
  rw [show z2 .ix (.lst (ks.map .str)) (.int b) = .ok (.str ks[b]) from ix_l (by simp [List.getElem?_eq_getElem hb]), bind_ok']
  have hkb : ks[b] ∈ ks := List.getElem_mem hb
  have hd := hk _ hkb
  generalize ks[b] = kd at hkb hd
  simp only [KS, List.mem_cons, List.not_mem_nil, or_false] at hd
  rcases hd with rfl | rfl | rfl | rfl | rfl
  · rw [sq_yeas_premier, bind_ok', ite_b, if_neg (by decide), sq_yeas_yeas, bind_ok', or_b, if_pos rfl, bind_ok', ite_b, if_pos rfl]
    refine zcn (thresh_ok ht) fun r hr => ?_
    obtain ⟨r, t⟩ := r
    obtain ⟨⟨th, e⟩, ht⟩ := hr
    dsimp only at e ht ⊢
    subst e
    exact zw_ok.mpr ⟨⟨.yeas c th, rfl, hkb, .inr ⟨c, rfl, hc⟩, by simp only [Rul.fr] <;> omega⟩, ht⟩
  · rw [sq_majority_premier, bind_ok', ite_b, if_neg (by decide), sq_majority_yeas, bind_ok', or_b, if_neg (by decide), sq_majority_quorum, bind_ok', bind_ok', ite_b, if_neg (by decide)]
    refine zd ht (by decide) (by decide) fun e0 t he0 ht => ?_
    dsimp only
    refine zlist (by show e0 < 3; omega) fun d hd => ?_
    obtain ⟨s, rfl⟩ := shOf hd
    rw [sq_majority_majority, bind_ok', ite_b, if_pos rfl]
    exact zw_ok.mpr ⟨⟨.maj c s, rfl, hkb, .inr ⟨c, rfl, hc⟩, by simp only [Rul.fr] <;> omega⟩, ht⟩
  · rw [sq_fraction_premier, bind_ok', ite_b, if_neg (by decide), sq_fraction_yeas, bind_ok', or_b, if_neg (by decide), sq_fraction_quorum, bind_ok', bind_ok', ite_b, if_neg (by decide)]
    refine zd ht (by decide) (by decide) fun e0 t he0 ht => ?_
    dsimp only
    refine zlist (by show e0 < 3; omega) fun d hd => ?_
    obtain ⟨s, rfl⟩ := shOf hd
    rw [sq_fraction_majority, bind_ok', ite_b, if_neg (by decide)]
    refine zd ht (by decide) (by decide) fun e t he ht => ?_
    dsimp only
    rw [add_i, bind_ok']
    refine zd ht (by omega) (by omega) fun g t hg ht => ?_
    dsimp only
    rw [add_i, bind_ok', zw_ok, show (1 : Int) + e = ((1 + e : Nat) : Int) by omega, show (1 : Int) + g = ((1 + g : Nat) : Int) by omega]
    exact ⟨⟨.frac c (1 + g) (1 + e) s, rfl, hkb, .inr ⟨c, rfl, hc⟩, by simp only [Rul.fr] <;> omega⟩, ht⟩
  · rw [sq_quorum_premier, bind_ok', ite_b, if_neg (by decide), sq_quorum_yeas, bind_ok', or_b, if_neg (by decide), sq_quorum_quorum, bind_ok', bind_ok', ite_b, if_pos rfl]
    refine zcn (thresh_ok ht) fun r hr => ?_
    obtain ⟨r, t⟩ := r
    obtain ⟨⟨th, e⟩, ht⟩ := hr
    dsimp only at e ht ⊢
    subst e
    exact zw_ok.mpr ⟨⟨.quo c th, rfl, hkb, .inr ⟨c, rfl, hc⟩, by simp only [Rul.fr] <;> omega⟩, ht⟩
  · rw [sq_premier_premier, bind_ok', ite_b, if_pos rfl]
    exact zw_ok.mpr ⟨⟨.prem, rfl, hkb, .inl rfl, trivial⟩, ht⟩
/-- all simple rules of a rule -/
def AllL (P : Rul → Prop) : Rul → Prop
  | .all x y => AllL P x ∧ AllL P y
  | .any x y => AllL P x ∧ AllL P y
  | .prem => P .prem
  | .yeas c th => P (.yeas c th)
  | .quo c th => P (.quo c th)
  | .maj c s => P (.maj c s)
  | .frac c p q s => P (.frac c p q s)
theorem Leaf.allL {cs : List Nat} {ks : List Str} {r : Rul} (h : Leaf cs ks r) : AllL (Leaf cs ks) r := by
  rcases h.2.1 with rfl | ⟨c, e, _⟩
  · exact h
  · cases r <;> first | exact h | (cases e; done)
theorem rule_drawG {cs : List Nat} {ks : List Str} (h1 : 0 < cs.length) (h2 : cs.length ≤ 1000) (h3 : 0 < ks.length) (h4 : ks.length ≤ 1000) (hk : ∀ k ∈ ks, k ∈ KS) : ∀ (d fuel : Nat) {t : List D}, 1 ≤ d → d ≤ fuel → Tp t →
    Zw (f_law_rule_11 fuel t (D.lst (nl cs)) (D.lst (ks.map .str)) (.int d)) fun r => (∃ r' : Rul, r.1 = rlD r' ∧ r'.dep ≤ d ∧ AllL (Leaf cs ks) r') ∧ Tp r.2
  | d, 0, _, h1, h2, _ => by omega
  | 0, _ + 1, _, h1, _, _ => by omega
  | d + 1, fuel + 1, t, hd1, hd2, ht => by
    simp only [f_law_rule_11]
    refine zd ht (by decide) (by decide) fun v t hv ht => ?_
    dsimp only
    have leaf : ∀ t, Tp t → Zw ((Z.nox (f_law_simple t (D.lst (nl cs)) (D.lst (ks.map .str)))).bind fun p10 => Z.ok (p10.1, p10.2)) fun r => (∃ r' : Rul, r.1 = rlD r' ∧ r'.dep ≤ d + 1 ∧ AllL (Leaf cs ks) r') ∧ Tp r.2 := by
      intro t ht
      refine zcn (leaf_draw ht h1 h2 h3 h4 hk) fun r hr => ?_
      obtain ⟨r, t⟩ := r
      obtain ⟨⟨r', e, hd⟩, ht⟩ := hr
      exact zw_ok.mpr ⟨⟨r', e, by rw [hd.dep]; omega, hd.allL⟩, ht⟩
    rw [gt_i, bind_ok', and_b]
    by_cases q : 0 < d
    · rw [if_pos (by simp; omega), lt_i, bind_ok', bind_ok', ite_b]
      split
      · rename_i hv4
        have hv4 : v < 4 := by simp at hv4; omega
        rw [sub_i, bind_ok', show (((d + 1 : Nat) : Int) - 1) = (d : Nat) by omega]
        refine zcn (rule_drawG h1 h2 h3 h4 hk d fuel (by omega) (by omega) ht) fun r hr => ?_
        obtain ⟨r, t⟩ := r
        obtain ⟨⟨r1, e, hd1, ha1⟩, ht⟩ := hr
        dsimp only at e ht ⊢
        subst e
        refine zlist (by show v < 4; omega) fun k hk4 => ?_
        rw [bind_ok']
        refine zcn (rule_drawG h1 h2 h3 h4 hk d fuel (by omega) (by omega) ht) fun r hr => ?_
        obtain ⟨r, t⟩ := r
        obtain ⟨⟨r2, e, hd2, ha2⟩, ht⟩ := hr
        dsimp only at e ht ⊢
        subst e
        simp only [List.mem_cons, List.not_mem_nil, or_false] at hk4
        have hk4 : k = .str "all" ∨ k = .str "any" := by rcases hk4 with h | h | h | h <;> simp [h]
        rcases hk4 with rfl | rfl
        · exact zw_ok.mpr ⟨⟨.all r1 r2, rfl, by simp only [Rul.dep]; omega, ha1, ha2⟩, ht⟩
        · exact zw_ok.mpr ⟨⟨.any r1 r2, rfl, by simp only [Rul.dep]; omega, ha1, ha2⟩, ht⟩
      · exact leaf t ht
    · rw [if_neg (by simp; omega), bind_ok', ite_b, if_neg (by decide)]
      exact leaf t ht
end G
namespace G
open PySem L2
/-! ### texts of votes: put together, cut, repeated -/
theorem str_ext {a b : Str} (h : a.cps.toList = b.cps.toList) : a = b := by
  cases a; cases b
  simp only [Str.mk.injEq]
  exact Array.toList_inj.mp h
theorem rol_app (a b : List Vt) : rolS a ++ rolS b = rolS (a ++ b) := by
  apply str_ext
  show ((rolS a).cps ++ (rolS b).cps).toList = _
  rw [Array.toList_append, rol_cps, rol_cps, rol_cps, List.map_append]
theorem add_rol {a b : List Vt} (h : a.length + b.length ≤ 1000) : z2 .add (.str (rolS a)) (.str (rolS b)) = .ok (.str (rolS (a ++ b))) := by
  have hz := SZ2
  unfold z2 p2 pAdd
  dsimp only
  rw [if_pos (by rw [rol_len, rol_len]; omega), rol_app]
  rfl
theorem rep_dash {k : Int} : Txt.mul "-" k = rolS (List.replicate k.toNat .a) := by
  apply str_ext
  rw [rol_cps, List.map_replicate]
  unfold Txt.mul
  by_cases h : k < 1
  · rw [if_pos h, show k.toNat = 0 by omega]
    rfl
  · rw [if_neg h]
    have fl : ∀ (n : Nat) (acc : Array Nat), ((List.replicate n (("-" : Str).cps)).foldl (· ++ ·) acc).toList = acc.toList ++ List.replicate n 45 := by
      intro n
      induction n with
      | zero => intro acc; simp
      | succ n ih =>
        intro acc
        rw [List.replicate_succ, List.foldl_cons, ih, Array.toList_append, List.append_assoc, List.replicate_succ]
        rfl
    split
    · rename_i h1
      have l1 : ("-" : Str).length = 1 := by rfl
      have : k = 1 := by
        rw [Bool.or_eq_true, beq_iff_eq, beq_iff_eq, l1] at h1
        omega
      subst this
      rfl
    · rw [show (⟨(List.replicate k.toNat ("-" : Str).cps).foldl (· ++ ·) #[]⟩ : Str).cps.toList = ((List.replicate k.toNat ("-" : Str).cps).foldl (· ++ ·) #[]).toList from rfl, fl]
      rfl
theorem mul_dash {k : Int} (h1 : -1000 ≤ k) (h2 : k ≤ 1000) : z2 .mul (.str "-") (.int k) = .ok (.str (rolS (List.replicate k.toNat .a))) := by
  unfold z2 p2 pMul
  dsimp only
  have l1 : ("-" : Str).length = 1 := by rfl
  rw [if_pos ⟨by rw [l1]; omega, by omega, by omega⟩, rep_dash]
  rfl
theorem vt_rep {vs : List Vt} {n i : Nat} : vt (vs ++ List.replicate n .a) i = vt vs i := by
  unfold vt
  rw [List.getD_eq_getElem?_getD, List.getD_eq_getElem?_getD]
  by_cases h : i < vs.length
  · rw [List.getElem?_append_left h]
  · rw [List.getElem?_append_right (by omega), List.getElem?_replicate, List.getElem?_eq_none (by omega : vs.length ≤ i)]
    split <;> rfl
/-! ### one vote changed -/
theorem vt_set {vs : List Vt} {i j : Nat} {v : Vt} (h : i < vs.length) : vt (vs.set i v) j = if j = i then v else vt vs j := by
  unfold vt
  rw [List.getD_eq_getElem?_getD, List.getD_eq_getElem?_getD, List.getElem?_set]
  by_cases q : j = i
  · subst q; simp [h]
  · rw [if_neg (fun z => q z.symm), if_neg q]
/-- how many seats a member holds -/
def hs (l : Ch) (i : Nat) : Nat := l.countP fun o => decide (o = some i)
/-! ### more votes -/
theorem AllL.imp {P Q : Rul → Prop} (h : ∀ r, P r → Q r) : ∀ {r : Rul}, AllL P r → AllL Q r
  | .prem, a => h _ a
  | .all x y, a => ⟨AllL.imp h a.1, AllL.imp h a.2⟩
  | .any x y, a => ⟨AllL.imp h a.1, AllL.imp h a.2⟩
  | .yeas _ _, a => h _ a
  | .quo _ _, a => h _ a
  | .maj _ _, a => h _ a
  | .frac _ _ _ _, a => h _ a
end G
namespace G
open PySem L2
end G
namespace G
open PySem L2
/-! ### amounts put to the vote -/
section
variable {ps : List Nat} {S : Se} {M : List Nat} {ld : Option Nat} {a : Nat}
end
end G
namespace G
open PySem L2
end G
namespace G
open PySem L2
/-! ### valid seatings -/
def Sc (m : Nat) (l : Ch) : Prop := (∀ (i j x : Nat), l[i]? = some (some x) → l[j]? = some (some x) → i = j) ∧ ∀ x, some x ∈ l → x < m
def Sg (m : Nat) (S : Se) : Prop := ∀ k, Sc m (hold S k)
theorem Sc.app {m : Nat} {l : Ch} {o : Ho} (h : Sc m l) (n : ∀ x, o = some x → x < m ∧ some x ∉ l) : Sc m (l ++ [o]) := by
  refine ⟨fun i j x h1 h2 => ?_, fun x hx => ?_⟩
  · rw [List.getElem?_append] at h1 h2
    have a1 : ∀ k : Nat, ¬ k < l.length → [o][k - l.length]? = some (some x) → k = l.length ∧ o = some x := by
      intro k hk e
      cases h9 : k - l.length with
      | zero => rw [h9] at e; exact ⟨by omega, by simpa using e⟩
      | succ q => rw [h9] at e; simp at e
    split at h1
    · split at h2
      · exact h.1 i j x h1 h2
      · rename_i hj
        obtain ⟨_, e⟩ := a1 j hj h2
        exact ((n x e).2 (List.mem_of_getElem? h1)).elim
    · rename_i hi
      obtain ⟨e1, e⟩ := a1 i hi h1
      split at h2
      · exact ((n x e).2 (List.mem_of_getElem? h2)).elim
      · rename_i hj
        obtain ⟨e2, _⟩ := a1 j hj h2
        omega
  · rcases List.mem_append.mp hx with hx | hx
    · exact h.2 x hx
    · exact (n x (List.mem_singleton.mp hx).symm).1
end G
namespace G
open PySem L2
/-! ### valid seatings as a test -/
theorem Sc.set {m : Nat} {l : Ch} {j : Nat} {o : Ho} (h : Sc m l) (n : ∀ x, o = some x → x < m ∧ some x ∉ l) : Sc m (l.set j o) := by
  refine ⟨fun a b x h1 h2 => ?_, fun x hx => ?_⟩
  · rw [List.getElem?_set] at h1 h2
    split at h1
    · rename_i e1
      split at h1
      · split at h2
        · rename_i e2; omega
        · have e : o = some x := by simpa using h1
          exact ((n x e).2 (List.mem_of_getElem? h2)).elim
      · cases h1
    · split at h2
      · split at h2
        · have e : o = some x := by simpa using h2
          exact ((n x e).2 (List.mem_of_getElem? h1)).elim
        · cases h2
      · exact h.1 a b x h1 h2
  · rcases List.mem_or_eq_of_mem_set hx with hx | hx
    · exact h.2 x hx
    · exact (n x hx.symm).1
theorem Sg.put {m : Nat} {S : Se} {c : Cg} (g : Sg m S) (v : valid m S c = true) : Sg m (put S c) := by
  intro k
  rw [hold_put]
  split
  · rename_i e
    subst e
    refine Sc.set (g c.1) fun x hx => ?_
    unfold valid okc at v
    rw [hx] at v
    simp only [Bool.and_eq_true, decide_eq_true_eq, Bool.not_eq_true', decide_eq_false_iff_not] at v
    exact ⟨v.2.2.1, v.2.2.2⟩
  · exact g k
/-- who sits there -/
def oc (l : Ch) : List Nat := l.filterMap id
theorem intsD_nl (ks : List Nat) : intsD (nl ks) = some (ks.map fun k : Nat => (k : Int)) := by
  have : nl ks = (ks.map fun k : Nat => (k : Int)).map .int := by simp [nl]
  rw [this, intsD_map]
end G
namespace G
open PySem L2
/-- leaves(rule) -/
def f_leaves : Nat → D → Z (List D)
  | 0, _ => .no
  | fuel + 1, rule =>
    (z2 .ix rule (D.int 0)).bind fun r1 =>
    (z2 .inn r1 (D.tup [(D.str "all"), (D.str "any")])).bind fun r2 =>
    zite r2 (
    (z2 .ix rule (D.int 1)).bind fun r3 =>
      (f_leaves fuel r3).bind fun r4 =>
      (z2 .ix rule (D.int 2)).bind fun r5 =>
      (f_leaves fuel r5).bind fun r6 =>
      (z2o .add (D.lst r4) (D.lst r6)).bind fun r7 =>
      .ok r7) (
    .ok [rule])
/-- named(rule) -/
def f_named (rule : D) : Z (D) :=
  (f_leaves 30 rule).bind fun r1 =>
  (itD .seq [(D.lst r1)]).bind fun xs3 =>
  (compZ (fun d2 =>
  (z2 .ix d2 (D.int 0)).bind fun r5 =>
    (z2 .ne r5 (D.str "premier")).bind fun r6 =>
    zite r6 (.ok (some d2)) (.ok none)) xs3).bind fun ys7 =>
  (itD .seq [(D.lst ys7)]).bind fun xs9 =>
  (mapZ (fun d8 =>
  (z2 .ix d8 (D.int 1)).bind fun r11 =>
    .ok r11) xs9).bind fun ys12 =>
  (itD .seq [(D.lst ys7)]).bind fun xs14 =>
  (compZ (fun d13 =>
  (z2 .ix d13 (D.int 0)).bind fun r16 =>
    (z2 .inn r16 (D.tup [(D.str "yeas"), (D.str "quorum")])).bind fun r17 =>
    zite r17 ((z2 .ix d13 (D.int 2)).bind fun r18 =>
      .ok (some r18)) (.ok none)) xs14).bind fun ys19 =>
  (itD .seq [(D.lst ys19)]).bind fun xs21 =>
  (compZ (fun d20 =>
  (z1 (.isi 0) d20).bind fun r23 =>
    (z1 .truth r23).bind fun r24 =>
    zite r24 ((z2 .ix d20 (D.int 1)).bind fun r25 =>
      .ok (some r25)) (.ok none)) xs21).bind fun ys26 =>
  (z1o .srtSet (D.lst ys12)).bind fun r27 =>
  (z1 .tupl (D.lst r27)).bind fun r28 =>
  (z1o .srtSet (D.lst ys26)).bind fun r29 =>
  (z1 .tupl (D.lst r29)).bind fun r30 =>
  .ok (D.tup [r28, r30])
/-- _law_leaves(rule) -/
def f_law_leaves_03 : Nat → D → Z (List D)
  | 0, _ => .no
  | fuel + 1, rule =>
    (z2 .ix rule (D.int 0)).bind fun r1 =>
    (z2 .eq r1 (D.str "all")).bind fun r2 =>
    (zor r2 ((z2 .ix rule (D.int 0)).bind fun r3 =>
      (z2 .eq r3 (D.str "any")).bind fun r4 =>
      .ok r4)).bind fun r5 =>
    zite r5 (
    (z2 .ix rule (D.int 1)).bind fun r6 =>
      (f_law_leaves_03 fuel r6).bind fun r7 =>
      (z2 .ix rule (D.int 2)).bind fun r8 =>
      (f_law_leaves_03 fuel r8).bind fun r9 =>
      (z2o .add (D.lst r7) (D.lst r9)).bind fun r10 =>
      .ok r10) (
    .ok [rule])
/-- _law_chambers_of(rule) -/
def f_law_chambers_of (rule : D) : Z (List D) :=
  (f_law_leaves_03 30 rule).bind fun r1 =>
  (itD .seq [(D.lst r1)]).bind fun xs3 =>
  (compZ (fun d2 =>
  (z2 .ix d2 (D.int 0)).bind fun r5 =>
    (z2 .ne r5 (D.str "premier")).bind fun r6 =>
    zite r6 ((z2 .ix d2 (D.int 1)).bind fun r7 =>
      .ok (some r7)) (.ok none)) xs3).bind fun ys8 =>
  (z1o .srtSet (D.lst ys8)).bind fun r9 =>
  .ok r9
/-- _law_numbers_of(rule) -/
def f_law_numbers_of (rule : D) : Z (List D) :=
  (f_law_leaves_03 30 rule).bind fun r1 =>
  (itD .seq [(D.lst r1)]).bind fun xs5 =>
  (foldZ (fun d4 (s2 : List D) =>
  (z2 .ix d4 (D.int 0)).bind fun r6 =>
    (z2 .inn r6 (D.lst [(D.str "yeas"), (D.str "quorum")])).bind fun r7 =>
    (zand r7 ((z2 .ix d4 (D.int 2)).bind fun r8 =>
      (z1 (.isi 0) r8).bind fun r9 =>
      (z1 .truth r9).bind fun r10 =>
      .ok r10)).bind fun r11 =>
    zite r11 (
    (z2 .ix d4 (D.int 2)).bind fun r12 =>
      (z2 .ix r12 (D.int 1)).bind fun r13 =>
      (zapp s2 r13).bind fun l14 =>
      .ok l14) (
    .ok s2)) xs5 []).bind fun s3 =>
  (z1o .srtSet (D.lst s3)).bind fun r15 =>
  .ok r15
/-- _law_other_limits(tape, limits, numbers) -/
def f_law_other_limits (tape : List D) (limits : D) (numbers : D) : Z (D × List D) :=
  (Z.nox (f_law_draw tape (D.int 9))).bind fun p1 =>
  (itD .seq [numbers]).bind fun xs5 =>
  (foldZ (fun d4 (s2 : D) =>
  (z1 .len limits).bind fun r6 =>
    (z2 .lt d4 r6).bind fun r7 =>
    (zand r7 ((z2 .ix limits d4).bind fun r8 =>
      (z2 .gt r8 (D.int 0)).bind fun r9 =>
      .ok r9)).bind fun r10 =>
    zite r10 (
    (z2 .add d4 (D.int 1)).bind fun r11 =>
      (z2 .max s2 r11).bind fun r12 =>
      .ok r12) (
    .ok s2)) xs5 p1.1).bind fun s3 =>
  (itD .rng [s3]).bind fun xs16 =>
  (foldZ (fun d15 (s13 : List D × List D) =>
  (Z.nox (f_law_draw s13.1 (D.int 14))).bind fun p17 =>
    (z2 .inn d15 numbers).bind fun r18 =>
    (zite r18 (
    (z1 .len limits).bind fun r19 =>
      (z2 .lt d15 r19).bind fun r20 =>
      zite r20 (
      (z2 .ix limits d15).bind fun r21 =>
        .ok r21) (
      .ok (D.int 0))) (
    .ok p17.1)).bind fun (s22 : D) =>
    (zapp s13.2 s22).bind fun l23 =>
    .ok (p17.2, l23)) xs16 (p1.2, [])).bind fun s14 =>
  (z1 .tupl (D.lst s14.2)).bind fun r24 =>
  .ok (r24, s14.1)
/-- law(script) -/
def f_law_03 (script : D) : Z (D) :=
  (f_law_tape script).bind fun r1 =>
  (Z.nox (f_law_rule_11 30 r1 (D.lst [(D.int 0), (D.int 0), (D.int 1), (D.int 2), (D.int 3)]) (D.lst [(D.str "yeas"), (D.str "quorum"), (D.str "majority"), (D.str "fraction"), (D.str "quorum"), (D.str "premier")]) (D.int 4))).bind fun p2 =>
  (Z.nox (f_law_seats p2.2 (D.int 4))).bind fun p3 =>
  (Z.nox (f_law_draw p3.2 (D.int 13))).bind fun p4 =>
  (Z.nox (f_law_roll p4.2 p4.1)).bind fun p5 =>
  (Z.nox (f_law_limits p5.2)).bind fun p6 =>
  (Z.nox (f_law_leader p6.2)).bind fun p7 =>
  (f_law_chambers_of p2.1).bind fun r8 =>
  (f_law_numbers_of p2.1).bind fun r9 =>
  (Z.nox (f_law_rule_11 30 p7.2 (D.lst [(D.int 0), (D.int 1), (D.int 2), (D.int 3)]) (D.lst [(D.str "yeas"), (D.str "quorum"), (D.str "majority"), (D.str "fraction"), (D.str "quorum"), (D.str "premier")]) (D.int 4))).bind fun p10 =>
  (itD .seq [(D.lst [p10.1, p2.1])]).bind fun xs14 =>
  (forZ (σ := Unit) (ρ := D) (fun d13 s11 =>
  (f_named d13).bind fun r15 =>
    (f_law_chambers_of d13).bind fun r16 =>
    (z1 .tupl (D.lst r16)).bind fun r17 =>
    (f_law_numbers_of d13).bind fun r18 =>
    (z1 .tupl (D.lst r18)).bind fun r19 =>
    (f_law_same 30 r15 (D.tup [r17, r19])).bind fun r20 =>
    (z1 .truth r20).bind fun r21 =>
    (znot r21).bind fun r22 =>
    zite r22 (
    .ok (.ret (D.bl false))) (
    .ok (.nx ()))) xs14 ()).bind fun c => zfl c (fun s12 =>
  (z1 .len p3.1).bind fun r23 =>
    (itD .rng [r23]).bind fun xs27 =>
    (foldZ (fun d26 (s24 : List D × List D × List D) =>
    (Z.nox (f_law_holders s24.1 (D.int 12))).bind fun p28 =>
      (zapp s24.2.2 p28.1).bind fun l29 =>
      (z2 .inn d26 (D.lst r8)).bind fun r30 =>
      zite r30 (
      (z2 .ix p3.1 d26).bind fun r31 =>
        (zst l29 d26 r31).bind fun l32 =>
        (z2 .ix p3.1 d26).bind fun r33 =>
        (z1o .list r33).bind fun r34 =>
        (z2o .add (D.lst s24.2.1) (D.lst r34)).bind fun r35 =>
        .ok (p28.2, r35, l32)) (
      .ok (p28.2, s24.2.1, l29))) xs27 (p10.2, [], [])).bind fun s25 =>
    (Z.nox (f_law_leader s25.1)).bind fun p36 =>
    (f_law_leaves_03 30 p2.1).bind fun r37 =>
    (z2 .inn (D.tup [(D.str "premier")]) (D.lst r37)).bind fun r38 =>
    (zite r38 (
    (zapp s25.2.1 p7.1).bind fun l39 =>
      .ok (p7.1, l39)) (
    .ok (p36.1, s25.2.1))).bind fun (s40 : D × List D) =>
    (Z.nox (f_law_roll p36.2 (D.int 12))).bind fun p41 =>
    (z1o .list p41.1).bind fun r42 =>
    (itD .rng [(D.int 12)]).bind fun xs46 =>
    (foldZ (fun d45 (s43 : List D) =>
    (z2 .inn d45 (D.lst s40.2)).bind fun r47 =>
      zite r47 (
      (z2 .mul (D.str "-") (D.int 12)).bind fun r48 =>
        (z2 .add p5.1 r48).bind fun r49 =>
        (z2 .ix r49 d45).bind fun r50 =>
        (zst s43 d45 r50).bind fun l51 =>
        .ok l51) (
      .ok s43)) xs46 r42).bind fun s44 =>
    (f_law_passes_11 30 p2.1 p3.1 p5.1 p6.1 p7.1).bind fun r52 =>
    (f_passes p2.1 p3.1 p5.1 p6.1 p7.1).bind fun r53 =>
    (f_law_same 30 r53 r52).bind fun r54 =>
    (z1 .truth r54).bind fun r55 =>
    (znot r55).bind fun r56 =>
    zite r56 (
    .ok (D.bl false)) (
    (Z.nox (f_law_other_limits p41.2 p6.1 (D.lst r9))).bind fun p57 =>
      (z1 .tupl (D.lst s25.2.2)).bind fun r58 =>
      zrec .join (D.str "") <|
      (zval (pm .join (D.str "") (D.lst s44))).bind fun r59 =>
      (f_passes p2.1 r58 r59 p57.1 s40.1).bind fun r60 =>
      (f_law_same 30 r60 r52).bind fun r61 =>
      .ok r61)) fun c => .ok c
end G
namespace G
open PySem L2
end G
namespace G
open PySem L2
/-! ### the simple rules of a rule -/
def lvs : Rul → List Rul
  | .all x y => lvs x ++ lvs y
  | .any x y => lvs x ++ lvs y
  | r => [r]
theorem lvs_simple : ∀ (r : Rul), ∀ l ∈ lvs r, l = .prem ∨ ∃ c, l.one = some c
  | .all x y, l, h => (List.mem_append.mp h).elim (lvs_simple x l) (lvs_simple y l)
  | .any x y, l, h => (List.mem_append.mp h).elim (lvs_simple x l) (lvs_simple y l)
  | .prem, l, h => by simp [lvs] at h; exact .inl h
  | .yeas c th, l, h => by simp [lvs] at h; subst h; exact .inr ⟨c, rfl⟩
  | .quo c th, l, h => by simp [lvs] at h; subst h; exact .inr ⟨c, rfl⟩
  | .maj c th, l, h => by simp [lvs] at h; subst h; exact .inr ⟨c, rfl⟩
  | .frac c _ _ _, l, h => by simp [lvs] at h; subst h; exact .inr ⟨c, rfl⟩
theorem lvs_len : ∀ r : Rul, (lvs r).length ≤ 2 ^ (r.dep - 1)
  | .all x y => by
    have h1 := lvs_len x; have h2 := lvs_len y
    simp only [lvs, Rul.dep, List.length_append, Nat.add_sub_cancel]
    have e1 : 2 ^ (x.dep - 1) ≤ 2 ^ (max x.dep y.dep - 1) := Nat.pow_le_pow_right (by decide) (by omega)
    have e2 : 2 ^ (y.dep - 1) ≤ 2 ^ (max x.dep y.dep - 1) := Nat.pow_le_pow_right (by decide) (by omega)
    have hd : 1 ≤ max x.dep y.dep := by have : 1 ≤ x.dep := by cases x <;> simp only [Rul.dep] <;> omega
                                        omega
    have e3 : 2 ^ (max x.dep y.dep) = 2 ^ (max x.dep y.dep - 1) * 2 := by rw [← Nat.pow_succ]; congr 1; omega
    omega
  | .any x y => by
    have h1 := lvs_len x; have h2 := lvs_len y
    simp only [lvs, Rul.dep, List.length_append, Nat.add_sub_cancel]
    have e1 : 2 ^ (x.dep - 1) ≤ 2 ^ (max x.dep y.dep - 1) := Nat.pow_le_pow_right (by decide) (by omega)
    have e2 : 2 ^ (y.dep - 1) ≤ 2 ^ (max x.dep y.dep - 1) := Nat.pow_le_pow_right (by decide) (by omega)
    have hd : 1 ≤ max x.dep y.dep := by have : 1 ≤ x.dep := by cases x <;> simp only [Rul.dep] <;> omega
                                        omega
    have e3 : 2 ^ (max x.dep y.dep) = 2 ^ (max x.dep y.dep - 1) * 2 := by rw [← Nat.pow_succ]; congr 1; omega
    omega
  | .prem => by simp [lvs, Rul.dep]
  | .yeas _ _ => by simp [lvs, Rul.dep]
  | .quo _ _ => by simp [lvs, Rul.dep]
  | .maj _ _ => by simp [lvs, Rul.dep]
  | .frac _ _ _ _ => by simp [lvs, Rul.dep]
theorem lvs_le {r : Rul} (h : r.dep ≤ 10) : (lvs r).length ≤ 512 := Nat.le_trans (lvs_len r) (by
  have : 2 ^ (r.dep - 1) ≤ 2 ^ 9 := Nat.pow_le_pow_right (by decide) (by omega)
  omega)
theorem si_yeas : z2 .inn (.str "yeas") (.tup [.str "all", .str "any"]) = .ok (.bl false) := rfl
theorem si_quorum : z2 .inn (.str "quorum") (.tup [.str "all", .str "any"]) = .ok (.bl false) := rfl
theorem si_majority : z2 .inn (.str "majority") (.tup [.str "all", .str "any"]) = .ok (.bl false) := rfl
theorem si_fraction : z2 .inn (.str "fraction") (.tup [.str "all", .str "any"]) = .ok (.bl false) := rfl
theorem si_premier : z2 .inn (.str "premier") (.tup [.str "all", .str "any"]) = .ok (.bl false) := rfl
theorem si_all : z2 .inn (.str "all") (.tup [.str "all", .str "any"]) = .ok (.bl true) := rfl
theorem si_any : z2 .inn (.str "any") (.tup [.str "all", .str "any"]) = .ok (.bl true) := rfl
theorem leaves_ok : ∀ (r : Rul) (fuel : Nat), r.dep ≤ 10 → r.dep ≤ fuel → f_leaves fuel (rlD r) = .ok ((lvs r).map rlD)
  | r, 0, _, h => by cases r <;> simp [Rul.dep] at h
  | .prem, fuel + 1, _, _ => by
    simp only [f_leaves, rlD]
    rw [ixq0, bind_ok', si_premier, bind_ok', ite_b, if_neg (by decide)]
    rfl
  | .yeas c th, fuel + 1, _, _ => by
    simp only [f_leaves, rlD]
    rw [ixq0, bind_ok', si_yeas, bind_ok', ite_b, if_neg (by decide)]
    rfl
  | .quo c th, fuel + 1, _, _ => by
    simp only [f_leaves, rlD]
    rw [ixq0, bind_ok', si_quorum, bind_ok', ite_b, if_neg (by decide)]
    rfl
  | .maj c s, fuel + 1, _, _ => by
    simp only [f_leaves, rlD]
    rw [ixq0, bind_ok', si_majority, bind_ok', ite_b, if_neg (by decide)]
    rfl
  | .frac c p q s, fuel + 1, _, _ => by
    simp only [f_leaves, rlD]
    rw [ixq0, bind_ok', si_fraction, bind_ok', ite_b, if_neg (by decide)]
    rfl
  | .all x y, fuel + 1, h10, h => by
    have hz := SZ2
    simp only [Rul.dep] at h h10
    have hx := lvs_le (r := x) (by omega)
    have hy := lvs_le (r := y) (by omega)
    simp only [f_leaves, rlD]
    rw [ixq0, bind_ok', si_all, bind_ok', ite_b, if_pos (by decide), ixq1, bind_ok', leaves_ok x fuel (by omega) (by omega), bind_ok', ixq2, bind_ok', leaves_ok y fuel (by omega) (by omega), bind_ok', add_l (by simp only [List.length_map]; omega), bind_ok', ← List.map_append]
    rfl
  | .any x y, fuel + 1, h10, h => by
    have hz := SZ2
    simp only [Rul.dep] at h h10
    have hx := lvs_le (r := x) (by omega)
    have hy := lvs_le (r := y) (by omega)
    simp only [f_leaves, rlD]
    rw [ixq0, bind_ok', si_any, bind_ok', ite_b, if_pos (by decide), ixq1, bind_ok', leaves_ok x fuel (by omega) (by omega), bind_ok', ixq2, bind_ok', leaves_ok y fuel (by omega) (by omega), bind_ok', add_l (by simp only [List.length_map]; omega), bind_ok', ← List.map_append]
    rfl
/-- the premier's vote among simple rules -/
def thP : RTh → PyData
  | .num n => .int n
  | .par k => .tuple [.str "parameter", .int k]
def shS : RSh → Str
  | .seats => "seats"
  | .att => "attending"
  | .vot => "voting"
def rlP : Rul → PyData
  | .prem => .tuple [.str "premier"]
  | .yeas c th => .tuple [.str "yeas", .int c, thP th]
  | .quo c th => .tuple [.str "quorum", .int c, thP th]
  | .maj c s => .tuple [.str "majority", .int c, .str (shS s)]
  | .frac c p q s => .tuple [.str "fraction", .int c, .int p, .int q, .str (shS s)]
  | .all a b => .tuple [.str "all", rlP a, rlP b]
  | .any a b => .tuple [.str "any", rlP a, rlP b]
theorem toPy_th : ∀ th : RTh, toPy (rthD th) = some (thP th)
  | .num n => rfl
  | .par k => rfl
theorem toPy_sh : ∀ s : RSh, toPy (shD s) = some (.str (shS s)) := fun s => by cases s <;> rfl
theorem toPy_rl : ∀ r : Rul, toPy (rlD r) = some (rlP r)
  | .prem => rfl
  | .yeas c th => by simp only [rlD, toPy, toPys, toPy_th, Option.map_some, rlP]
  | .quo c th => by simp only [rlD, toPy, toPys, toPy_th, Option.map_some, rlP]
  | .maj c s => by simp only [rlD, toPy, toPys, toPy_sh, Option.map_some, rlP]
  | .frac c p q s => by simp only [rlD, toPy, toPys, toPy_sh, Option.map_some, rlP]
  | .all a b => by simp only [rlD, toPy, toPys, toPy_rl a, toPy_rl b, Option.map_some, rlP]
  | .any a b => by simp only [rlD, toPy, toPys, toPy_rl a, toPy_rl b, Option.map_some, rlP]
theorem toPys_rl : ∀ L : List Rul, toPys (L.map rlD) = some (L.map rlP)
  | [] => by rw [List.map_nil, toPys]; rfl
  | x :: L => by rw [List.map_cons, toPys, toPy_rl, toPys_rl L]; rfl
def Rul.isP : Rul → Bool
  | .prem => true
  | _ => false
theorem eqv_prem (r : Rul) : PyData.eqv (rlP r) (.tuple [.str "premier"]) = r.isP := by
  cases r <;> simp [rlP, PyData.eqv, PyData.eqvAll, Rul.isP]
theorem in_prem {L : List Rul} (hL : 0 < L.length) : z2 .inn (.tup [.str "premier"]) (.lst (L.map rlD)) = .ok (.bl (L.any Rul.isP)) := by
  have h0 : z2 .inn (.tup [.str "premier"]) (.lst (L.map rlD)) = zval (pInD false (.tup [.str "premier"]) (L.map rlD)) := by
    unfold z2 p2 pIn
    dsimp only
    rw [if_neg]
    rw [show flatD (.tup [.str "premier"]) = false from rfl]
    simp
  rw [h0]
  unfold pInD
  rw [show toPy (.tup [.str "premier"]) = some (.tuple [.str "premier"]) from rfl, toPys_rl]
  dsimp only
  have hd : (PyData.tuple [.str "premier"]).depth ≤ 63 := Nat.le_of_ble_eq_true rfl
  rw [if_pos hd, List.any_map]
  show Z.ok (D.bl _) = _
  congr 2
  refine congrArg (fun f => L.any f) ?_
  funext r
  exact eqv_prem r
/-- the chambers of the simple rules -/
def chsL (L : List Rul) : List Nat := L.filterMap Rul.one
theorem chs_map {L : List Rul} (h : ∀ l ∈ L, ∃ c, l.one = some c) : L.map (fun l => (l.one).getD 0) = chsL L ∧ (chsL L).length = L.length := by
  induction L with
  | nil => exact ⟨rfl, rfl⟩
  | cons l L ih =>
    obtain ⟨c, e⟩ := h l (List.mem_cons_self ..)
    obtain ⟨i1, i2⟩ := ih fun x hx => h x (List.mem_cons_of_mem _ hx)
    unfold chsL at *
    rw [List.map_cons, List.filterMap_cons, e]
    dsimp only
    rw [i1]
    exact ⟨rfl, by simp [i2]⟩
end G
namespace G
open PySem PySem.Spec PyProof.Rows L2
variable [Tb]
section
variable {C : Cfg} {W : WX} {M H M1 H1 : Hp} {σ σ' : L2.St} {nv nv1 : Nv} {Φ : Fn} {shs : Nat → Nat → Shape} {K : PySem.W.Frag} {x y : Expr} {a b : E} {pos : Pos}
/-! ### xs[::-1] -/
/-! ### len(set(xs)) of ints -/
/-! ### tuple.index, tuple.count of flat things -/
/-! ### not x, by its truth -/
/-! ### displays of numbers -/
def intsX : List Expr → Option (List Int)
  | [] => some []
  | .Constant (.int n) _ _ :: xs => (intsX xs).map (n :: ·)
  | _ :: _ => none
theorem snd_ints : ∀ {xs : List Expr} {ns : List Int}, intsX xs = some ns → SndA C W xs (evOs Φ shs (ns.map E.int))
  | [], _, h => by cases h; exact sndA_nil
  | x :: xs, ns, h => by
    cases x <;> first | (cases h; done) | skip
    rename_i c k p
    cases c <;> first | (cases h; done) | skip
    rename_i n
    simp only [intsX] at h
    cases q : intsX xs with
    | none => rw [q] at h; cases h
    | some ms =>
      rw [q] at h
      cases h
      exact sa_e rfl rfl snd_int (snd_ints q)
/-! ### constants of the module -/
end
end G
namespace GI
open PySem PySem.Spec PyProof.Rows L2
/-! ### set(xs) of a list of ints: which ints there are -/
section
variable {P : Program} {w : World} {A : Around} {E : Value → Shared → Prop} {s : Shared}
/-- an empty set -/
def nob (w : World) : Obj := { cls := .type "set", dict := none, data := .set #[] 0 (.fresh 0 0 (!w.params.followText "set-order")) }
def itob (l : Addr) : Obj := { cls := .type "list_iterator", data := .fields #[.ref l, .int 0 0] }
/-- the set once its list has been walked through -/
def Fin (w : World) (s : Shared) (ns : List Int) : Shared → Prop := fun s₂ => ∃ h' tk c, s₂ = { s with heap := h', toks := tk } ∧ SetR w h' s.heap.objs.size (fun j => decide (j ∈ ns)) c ∧ c ≤ ns.length ∧ ∀ b o, s.heap.get? b = some o → h'.get? b = some o
/-- the walk -/
theorem walk_lst {l : Addr} {items : Array Value} (ns : List Int) (hh : A.handled = none) (hl : s.heap.IsList l items) (hit : IntsAre items.toList ns) (hb : ns.length + 1 < scanBound) {R : Result → Shared → Prop}
    (h : ∀ s₂, Fin w s ns s₂ → R (.ok (.ret .none)) s₂) :
    codeAny (model P w) A (.builtin "set.update.loop" ⟨[.ref s.heap.objs.size, .ref (s.heap.push (nob w)).objs.size], []⟩) R { s with heap := (s.heap.push (nob w)).push (itob l) } := by
  have hisz : items.size = ns.length := by
    have q := IntsAre.length hit
    rwa [Array.length_toList] at q
  obtain ⟨o, ho, hc, n, hd⟩ := id hl
  have hlS : l < s.heap.objs.size := Heap.lt_size ho
  have hz : (s.heap.push (nob w)).objs.size = s.heap.objs.size + 1 := Heap.size_push ..
  have hS : (s.heap.push (nob w)).get? s.heap.objs.size = some (nob w) := Heap.get?_push_size _ rfl
  have hl1 : (s.heap.push (nob w)).IsList l items := ⟨o, Heap.get?_push_of_some _ ho, hc, n, hd⟩
  have hval : ∀ (i : Nat) (v : Value), items[i]? = some v → ∃ k t, ns[i]? = some k ∧ v = .int k t := fun i v hv => by
    have hi : i < ns.length := by rw [← hisz]; exact (Array.getElem?_eq_some_iff.mp hv).1
    obtain ⟨t, e⟩ := PyProof.Rows.IntsAre.int_at hit i v (by rw [Array.getElem?_toList]; exact hv)
    refine ⟨ns[i], t, List.getElem?_eq_getElem hi, ?_⟩
    rw [e, List.getD_eq_getElem?_getD, List.getElem?_eq_getElem hi] <;> rfl
  have hh1 : A.in1.handled = none := hh
  have hneI : l ≠ (s.heap.push (nob w)).objs.size := by
    rw [hz]; exact Nat.ne_of_lt (Nat.lt_succ_of_lt hlS)
  have hSf : s.heap.objs.size ∉ [(s.heap.push (nob w)).objs.size, l] := by
    rw [hz]; simp only [List.mem_cons, List.mem_singleton, List.not_mem_nil, or_false, not_or]
    exact ⟨Nat.ne_of_lt (Nat.lt_succ_self _), Nat.ne_of_gt hlS⟩
  refine set_update_ints ((Walks.list hh1 _ l hneI items).toS) s.heap.objs.size hSf ns hisz hb hval (items.size - 0) 0 _ (by omega) (Nat.zero_le _)
    ⟨⟨_, Heap.get?_push_size _ rfl, rfl, rfl⟩, hl1.push _⟩ ⟨0, Nat.le_refl 0, setR_new_at (Heap.get?_push_of_some _ hS)⟩ fun s' c' hm hc' hS' => ?_
  obtain ⟨h', g2, d', tk', os'⟩ := s'
  have eg : g2 = s.gens := hm.gens
  have ed : d' = s.drawn := hm.drawn
  have eo : os' = s.os := hm.os
  subst eg; subst ed; subst eo
  refine h _ ⟨h', tk', c', rfl, hS', by rw [hisz] at hc'; exact hc', fun b o e => ?_⟩
  have hb0 : b < s.heap.objs.size := Heap.lt_size e
  exact hm.heap b o (by rw [hz]; simp only [List.mem_cons, List.mem_singleton, List.not_mem_nil, or_false, not_or]; exact ⟨Nat.ne_of_lt hb0, Nat.ne_of_lt (Nat.lt_succ_of_lt hb0)⟩) (Heap.get?_push_of_some _ (Heap.get?_push_of_some _ e))
set_option maxHeartbeats 3200000 in
theorem call_set_lst {l : Addr} {items : Array Value} (ns : List Int) {Q : Value → Shared → Prop} (hh : A.handled = none) (hl : s.heap.IsList l items) (hit : IntsAre items.toList ns) (hb : ns.length + 1 < scanBound)
    (h : ∀ s₂, Fin w s ns s₂ → Q (.ref s.heap.objs.size) s₂) : wpAny (model P w) A (call (.type "set") [.ref l]) Q E s := by
  have ft := F.called_set
  obtain ⟨c, tl, hmro⟩ := ft.mro
  have hmade := ft.made
  have hsub := ft.sub
  have h1 := ft.notType
  have h2 := ft.canCreate
  have hct := F.typeCall_set_1 (.ref l)
  refine wpAny_call (codeAny_of_tree ?_)
  show wpAny _ _ (callAny (.type "set") _) _ _ _
  refine wpAny_pure ⟨Code.quiet_builtin _ (by decide +kernel), codeAny_builtin F.entry_type_call ?_⟩
  rw [Around.under_plain (weight_type_call_type "set" [.ref l] []) rfl]
  repeat (any_goals (first | assumption | wp_step))
  refine codeAny_mono (code_set_led1 (.ref l) (E := E) (Q₁ := fun obj s₁ => obj = .ref s.heap.objs.size ∧ s₁ = { s with heap := s.heap.push (nob w) }) ⟨rfl, rfl⟩) fun r s₁ hr => ?_
  match r, hr with
  | .error e, hr => exact hr
  | .ok (.ret obj), hr =>
    obtain ⟨rfl, rfl⟩ := hr
    have hS : (s.heap.push (nob w)).get? s.heap.objs.size = some (nob w) := Heap.get?_push_size _ rfl
    have hT : Shared.TypeIs { s with heap := s.heap.push (nob w) } (.ref s.heap.objs.size) "set" := ⟨_, hS, rfl⟩
    have hli := ft.init.lookup
    have hbi := ft.init.bind (.ref s.heap.objs.size)
    repeat (any_goals (first | assumption | wp_step))
    refine codeAny_mono (codeAny_call_builtin (R := wants (fun r s₂ => r = .none ∧ Fin w s ns s₂) E) ft.init.plain F.entry_set_init (check_set_init_1 hT ?_)) fun r₂ s₂ hr₂ => ?_
    · obtain ⟨ol, hol, hcl, nl, hdl⟩ := id hl
      obtain ⟨ocls, odict, odata, oslots⟩ := ol
      simp only at hcl hdl
      subst hcl; subst hdl
      have hol' : (s.heap.push (nob w)).get? l = some { cls := .type "list", dict := odict, data := .seq items nl, slots := oslots } := Heap.get?_push_of_some _ hol
      have hsls := F.sub_list_set
      have hslf := F.sub_list_frozenset
      have hne : (Value.type "list" == Value.type "dict") = false := by decide
      have hl1 : (s.heap.push (nob w)).IsList l items := ⟨_, hol', rfl, nl, rfl⟩
      unfold Builtin.«set.__init__» noKeywords Builtin.Frozenset.updateFrom
      generalize hPI : pyIter = PI
      unfold nob at hS hT hol' hl1 ⊢
      wp_walk
      subst hPI
      refine wpAny_pyIter_list hl1 ?_
      refine wpAny_bind (wpAny_runValue ?_)
      refine walk_lst (A := A.in1.in1) ns (by simp [hh]) hl hit hb fun s₂ hf => ?_
      refine wpAny_pure ?_
      exact wpAny_pure ⟨rfl, hf⟩
    · match r₂, hr₂ with
      | .error e, hr₂ => exact hr₂
      | .ok (.ret r), hr₂ =>
        obtain ⟨rfl, hf⟩ := hr₂
        repeat (any_goals (first | assumption | wp_step))
        exact h _ hf
end
end GI
namespace G
open PySem PySem.Spec PyProof.Rows L2
variable [Tb]
/-! ### sorted(set(t)) of numbers -/
theorem mem_insI {k j : Int} : ∀ {xs : List Int}, j ∈ insI k xs ↔ j = k ∨ j ∈ xs
  | [] => by simp [insI]
  | x :: xs => by
    unfold insI
    split
    · simp
    · split
      · rename_i h; subst h; simp
      · simp [mem_insI (xs := xs)]
        constructor
        · rintro (h | h | h) <;> simp [h]
        · rintro (h | h | h) <;> simp [h]
theorem asc_insI {k : Int} : ∀ {xs : List Int}, xs.Pairwise (· < ·) → (insI k xs).Pairwise (· < ·)
  | [], _ => by simp [insI]
  | x :: xs, h => by
    obtain ⟨h1, h2⟩ := List.pairwise_cons.mp h
    unfold insI
    split
    · rename_i hk
      refine List.pairwise_cons.mpr ⟨fun j hj => ?_, h⟩
      rcases List.mem_cons.mp hj with rfl | hj
      · exact hk
      · have := h1 j hj; omega
    · split
      · exact h
      · refine List.pairwise_cons.mpr ⟨fun j hj => ?_, asc_insI h2⟩
        rcases mem_insI.mp hj with rfl | hj
        · omega
        · exact h1 j hj
theorem mem_sortI {j : Int} : ∀ {ns : List Int}, j ∈ sortI ns ↔ j ∈ ns
  | [] => by simp [sortI]
  | n :: ns => by
    have : sortI (n :: ns) = insI n (sortI ns) := rfl
    rw [this, mem_insI, mem_sortI (ns := ns), List.mem_cons]
theorem asc_sortI : ∀ {ns : List Int}, (sortI ns).Pairwise (· < ·)
  | [] => by simp [sortI]
  | n :: ns => asc_insI (asc_sortI (ns := ns))
theorem asc_ext : ∀ {xs ys : List Int}, xs.Pairwise (· < ·) → ys.Pairwise (· < ·) → (∀ k, k ∈ xs ↔ k ∈ ys) → xs = ys
  | [], [], _, _, _ => rfl
  | [], y :: ys, _, _, h => absurd ((h y).mpr (by simp)) (by simp)
  | x :: xs, [], _, _, h => absurd ((h x).mp (by simp)) (by simp)
  | x :: xs, y :: ys, hx, hy, h => by
    obtain ⟨a1, a2⟩ := List.pairwise_cons.mp hx
    obtain ⟨b1, b2⟩ := List.pairwise_cons.mp hy
    have e : x = y := by
      rcases List.mem_cons.mp ((h x).mp (by simp)) with q | q
      · exact q
      · rcases List.mem_cons.mp ((h y).mpr (by simp)) with r | r
        · exact r.symm
        · have := b1 x q; have := a1 y r; omega
    subst e
    congr 1
    refine asc_ext a2 b2 fun k => ⟨fun hk => ?_, fun hk => ?_⟩
    · rcases List.mem_cons.mp ((h k).mp (by simp [hk])) with r | r
      · subst r; have := a1 k hk; omega
      · exact r
    · rcases List.mem_cons.mp ((h k).mpr (by simp [hk])) with r | r
      · subst r; have := b1 k hk; omega
      · exact r
section
variable {C : Cfg} {W : WX} {M H M1 H1 : Hp} {σ σ' : L2.St} {nv nv1 : Nv} {Φ : Fn} {shs : Nat → Nat → Shape} {K : PySem.W.Frag} {x y : Expr} {a b : E} {pos : Pos}
def tSrt (K : PySem.W.Frag) (ta : TE) : TE := fun σ H Q => ta σ H fun x H1 => ∃ (l : Addr) (ns : List Int), x = .ref l ∧ (SqT K H1 l (ns.map V.int) ∨ SqL K H1 l (ns.map V.int)) ∧ ns.length < 64 ∧ ∀ p, H1 p = none → Q (.ref p) (upd H1 p (.lst ((sortI ns).map V.int)))
theorem pe_srt {X : Cx} {a : Expr} {ta : TE} {p p2 q pos : Pos} (hg : Gl X "sorted") (hm : X.mg "sorted" = none) (hg2 : Gl X "set") (hm2 : X.mg "set" = none) (ha : PE X a ta) (hc : X.calm = true)
    (na : starEach [a] X.env = (false, eval a X.env) :: starEach [] X.env) : PE X (.Call (.Name "sorted" p) [.Call (.Name "set" p2) [a] [] q] [] pos) (tSrt X.K ta) := by
  refine ⟨fun pins s σ H Q I h => Call_ (ld_blt I hg hm boot_sorted (PyProof.Rows.callWith_builtin1 (PyProof.Rows.args_cons (Call_ (ld_blt I hg2 hm2 boot_set ?_)) rfl) rfl rfl))⟩
  refine PyProof.Rows.callWith_type1 (PyProof.Rows.args_cons (thn (ha.run pins s σ H _ I h) fun v s1 ⟨x, H1, I1, r1, q1⟩ => PyProof.Rows.args_nil ?_) na) na rfl
  obtain ⟨l, ns, rfl, hq, hl, q1⟩ := q1
  cases r1
  have hd := I1.ok.hd hc
  rcases hq with hq | hq
  · obtain ⟨its, rv, pt, hz⟩ := I1.tuple hq
    have hi : IntsAre its.toArray.toList ns := ints_of_vals rv
    refine call_set_tupI ns hd (show s1.heap.IsTuple l its.toArray from pt) hi (by unfold scanBound; omega) fun h' tk c R1 hcn k => PyProof.Rows.args_nil ?_
    have I2 : Inv X pins σ H1 { s1 with heap := h', toks := tk } := I1.kept k
    refine L2.sorted_set R1 (I2.ok.hd hc) (by omega) fun s' p out c ms k g o hp hg hi hs hm hl => ?_
    have e : sortI ns = ms := asc_ext asc_sortI hs fun j => by rw [mem_sortI, hm j, decide_eq_true_eq]
    have hlen : (ms.map V.int).length ≤ sizeLine := by rw [List.length_map, hl, sizeLine_eq]; omega
    have hn : H1 p = none := I2.hok.fresh hp
    have J := I2.call (ch := []) (H' := upd H1 p (.lst (ms.map V.int))) (h' := s'.heap) (g' := s'.gens) (d' := s'.drawn) (t' := s'.toks)
      (Un.laid k hp hn) (I2.hok.laid k hp ⟨hlen, out.toList, c, vals_of_ints hi, hg⟩) (by rw [g]; exact I2.bare) (fun _ z => nomatch z)
    have e2 : s' = { s1 with heap := s'.heap, gens := s'.gens, drawn := s'.drawn, toks := s'.toks } := by
      cases s'
      cases s1
      cases o
      rfl
    rw [e2]
    exact ⟨.ref p, _, J, rfl, by rw [← e]; exact q1 p hn⟩
  · obtain ⟨its, rv, pt, hz⟩ := I1.list hq
    have hi : IntsAre its.toArray.toList ns := ints_of_vals rv
    refine GI.call_set_lst ns hd pt.isList hi (by unfold scanBound; omega) fun s2 hf => ?_
    obtain ⟨h', tk, c, rfl, R1, hcn, k⟩ := hf
    refine PyProof.Rows.args_nil ?_
    have I2 : Inv X pins σ H1 { s1 with heap := h', toks := tk } := I1.kept k
    refine L2.sorted_set R1 (I2.ok.hd hc) (by omega) fun s' p out c ms k g o hp hg hi hs hm hl => ?_
    have e : sortI ns = ms := asc_ext asc_sortI hs fun j => by rw [mem_sortI, hm j, decide_eq_true_eq]
    have hlen : (ms.map V.int).length ≤ sizeLine := by rw [List.length_map, hl, sizeLine_eq]; omega
    have hn : H1 p = none := I2.hok.fresh hp
    have J := I2.call (ch := []) (H' := upd H1 p (.lst (ms.map V.int))) (h' := s'.heap) (g' := s'.gens) (d' := s'.drawn) (t' := s'.toks)
      (Un.laid k hp hn) (I2.hok.laid k hp ⟨hlen, out.toList, c, vals_of_ints hi, hg⟩) (by rw [g]; exact I2.bare) (fun _ z => nomatch z)
    have e2 : s' = { s1 with heap := s'.heap, gens := s'.gens, drawn := s'.drawn, toks := s'.toks } := by
      cases s'
      cases s1
      cases o
      rfl
    rw [e2]
    exact ⟨.ref p, _, J, rfl, by rw [← e]; exact q1 p hn⟩
theorem s_srtSet {p p2 q : Pos} (B : BltOk C) (hg : isGl C.sc "sorted" = true) (hg2 : isGl C.sc "set" = true) (ns : noStar x = true) (ha : SO C W Φ shs x a) : SndE C W (.Call (.Name "sorted" p) [.Call (.Name "set" p2) [x] [] q] [] pos) (evE Φ shs (.op1 .srtSet a)) :=
  snd_op1 (r := fun v H Q => ∃ (l : Addr) (ns : List Int), v = .ref l ∧ (SqT C.K H l (ns.map V.int) ∨ SqL C.K H l (ns.map V.int)) ∧ ns.length < 64 ∧ ∀ p, H p = none → Q (.ref p) (upd H p (.lst ((sortI ns).map V.int)))) ha (fun X hX => by
    rw [← hX.K]
    exact pe_srt (gl_of hX hg) (by rw [hX.mg]; exact B _ (by decide +kernel)) (gl_of hX hg2) (by rw [hX.mg]; exact B _ (by decide +kernel)) (PEo hX x) hX.calm (star_cons ns _ _)) (by
    intro M H d v res Q sm rd q k
    cases d <;> simp only [G.p1] at q <;> try cases q
    all_goals
      obtain ⟨a, vs, rfl, h1, h2⟩ := rd
      rename_i xs
      cases h3 : intsD xs with
      | none => rw [h3] at q; cases q
      | some ns =>
        rw [h3] at q
        simp only [Option.bind] at q
        split at q <;> cases q
        rename_i hl
        have e := intsD_ok h2 h3
        subst e
        first
          | exact ⟨a, ns, rfl, .inl (SqT.up sm h1), hl, fun p np => PR.lst sm k Reps.of_ints np⟩
          | exact ⟨a, ns, rfl, .inr (SqL.of h1), hl, fun p np => PR.lst sm k Reps.of_ints np⟩)
end
end G
namespace G
/-! ### sitting days: weekdays of a pattern from a start on -/
end G
namespace G
open PySem L2
/-! ### dates -/
def leapB (y : Int) : Bool := decide (y % 4 = 0 ∧ (0 < y % 100 ∨ y % 400 = 0))
def mtb : List Int := [31, 28, 31, 30, 31, 30, 31, 31, 30, 31, 30, 31]
def lenL (b : Bool) (m : Nat) : Int := if m = 2 ∧ b = true then 29 else mtb.getD (m - 1) 0
def cumL (b : Bool) (m : Nat) : Int := ((List.range (m - 1)).map fun k => lenL b (1 + k)).sum
def db (y : Int) : Int := 365 * (y - 1) + (y - 1) / 4 - (y - 1) / 100 + (y - 1) / 400
def dn (y : Int) (m : Nat) (d : Int) : Int := db y + cumL (leapB y) m + d - 1
structure Vd (y : Int) (m : Nat) (d : Int) : Prop where
  y1 : 1 ≤ y
  m1 : 1 ≤ m
  m2 : m ≤ 12
  d1 : 1 ≤ d
  d2 : d ≤ lenL (leapB y) m
/-! the readings -/
end G
namespace G
open PySem L2
end G
namespace G
open PySem L2
/-! ### calendars, as the program has them -/
def ascN (h : List Nat) : List Nat := (sortI (h.map fun k : Nat => (k : Int))).map Int.toNat
theorem asc_nl (h : List Nat) : (sortI (h.map fun k : Nat => (k : Int))).map D.int = nl (ascN h) := by
  unfold nl ascN
  rw [List.map_map]
  refine List.map_congr_left fun x hx => ?_
  obtain ⟨k, _, e⟩ := List.mem_map.mp (mem_sortI.mp hx)
  simp only [Function.comp]
  congr 1
  omega
theorem mem_asc {h : List Nat} {x : Nat} : x ∈ ascN h ↔ x ∈ h := by
  unfold ascN
  rw [List.mem_map]
  constructor
  · rintro ⟨i, hi, e⟩
    obtain ⟨k, hk, e2⟩ := List.mem_map.mp (mem_sortI.mp hi)
    have : k = x := by omega
    exact this ▸ hk
  · intro hx
    exact ⟨x, mem_sortI.mpr (List.mem_map.mpr ⟨x, hx, rfl⟩), by omega⟩
theorem len_insI {k : Int} : ∀ {xs : List Int}, (insI k xs).length ≤ xs.length + 1
  | [] => by simp [insI]
  | x :: xs => by
    unfold insI
    split
    · simp
    · split
      · simp
      · have := len_insI (k := k) (xs := xs); simp; omega
theorem len_asc {h : List Nat} : (ascN h).length ≤ h.length := by
  unfold ascN
  rw [List.length_map]
  have : ∀ ns : List Int, (sortI ns).length ≤ ns.length := by
    intro ns
    induction ns with
    | nil => simp [sortI]
    | cons n ns ih =>
      have e : sortI (n :: ns) = insI n (sortI ns) := rfl
      have := len_insI (k := n) (xs := sortI ns)
      rw [e]; simp; omega
  simpa using this (h.map fun k : Nat => (k : Int))
section
variable {s d : Nat} {w : List Bool} {h : List Nat}
end
end G
namespace G
/-! ### amendments: other flags, groups, other orders: without data -/
section
variable {es : List Ed} {fs fs2 : List Bool}
/-! a group is closed after so many turns -/
/-! the votes when they are submitted in another order -/
def alk (es : List Ed) (j k : Nat) : Bool := decide ((ge es j).p = (ge es k).p) && decide ((ge es j).r.length = (ge es k).r.length)
/-! how they are dealt -/
structure Dl (es : List Ed) (n : Nat) (A ds : List Nat) : Prop where
  lt : ∀ x ∈ ds, x < n
  nd : ds.Nodup
  ct : ∀ k, ds.countP (alk es k) = A.countP (alk es k)
  dn : ∀ x ∈ ds, ∀ y, y < x → alk es y x = true → y ∈ ds
  pw : ds.Pairwise fun a b => alk es a b = true → a < b
/-! any order -/
end
end G
namespace G
open PySem L2
end G
namespace G
open PySem L2
/-! ### the law of amendments: its readings -/
section
variable {l : Tx} {es : List Ed} {fs : List Bool}
end
end G
namespace G
open PySem L2
/-! ### what a rule names -/
theorem law_leaves_ok : ∀ (r : Rul) (fuel : Nat), r.dep ≤ 10 → r.dep ≤ fuel → f_law_leaves_03 fuel (rlD r) = .ok ((lvs r).map rlD)
  | r, 0, _, h => by cases r <;> simp [Rul.dep] at h
  | .prem, fuel + 1, _, _ => by
    simp only [f_law_leaves_03, rlD]
    rw [ixq0, bind_ok', sq_premier_all, bind_ok', or_b, if_neg (by decide), bind_ok', sq_premier_any, bind_ok', bind_ok', ite_b, if_neg (by decide)]
    rfl
  | .yeas c th, fuel + 1, _, _ => by
    simp only [f_law_leaves_03, rlD]
    rw [ixq0, bind_ok', sq_yeas_all, bind_ok', or_b, if_neg (by decide), bind_ok', sq_yeas_any, bind_ok', bind_ok', ite_b, if_neg (by decide)]
    rfl
  | .quo c th, fuel + 1, _, _ => by
    simp only [f_law_leaves_03, rlD]
    rw [ixq0, bind_ok', sq_quorum_all, bind_ok', or_b, if_neg (by decide), bind_ok', sq_quorum_any, bind_ok', bind_ok', ite_b, if_neg (by decide)]
    rfl
  | .maj c s, fuel + 1, _, _ => by
    simp only [f_law_leaves_03, rlD]
    rw [ixq0, bind_ok', sq_majority_all, bind_ok', or_b, if_neg (by decide), bind_ok', sq_majority_any, bind_ok', bind_ok', ite_b, if_neg (by decide)]
    rfl
  | .frac c p q s, fuel + 1, _, _ => by
    simp only [f_law_leaves_03, rlD]
    rw [ixq0, bind_ok', sq_fraction_all, bind_ok', or_b, if_neg (by decide), bind_ok', sq_fraction_any, bind_ok', bind_ok', ite_b, if_neg (by decide)]
    rfl
  | .all x y, fuel + 1, h10, h => by
    have hz := SZ2
    simp only [Rul.dep] at h h10
    have hx := lvs_le (r := x) (by omega)
    have hy := lvs_le (r := y) (by omega)
    simp only [f_law_leaves_03, rlD]
    rw [ixq0, bind_ok', sq_all_all, bind_ok', or_b, if_pos (by decide), bind_ok', ite_b, if_pos (by decide), ixq1, bind_ok', law_leaves_ok x fuel (by omega) (by omega), bind_ok', ixq2, bind_ok', law_leaves_ok y fuel (by omega) (by omega), bind_ok', add_l (by simp only [List.length_map]; omega), bind_ok', ← List.map_append]
    rfl
  | .any x y, fuel + 1, h10, h => by
    have hz := SZ2
    simp only [Rul.dep] at h h10
    have hx := lvs_le (r := x) (by omega)
    have hy := lvs_le (r := y) (by omega)
    simp only [f_law_leaves_03, rlD]
    rw [ixq0, bind_ok', sq_any_all, bind_ok', or_b, if_neg (by decide), bind_ok', sq_any_any, bind_ok', bind_ok', ite_b, if_pos (by decide), ixq1, bind_ok', law_leaves_ok x fuel (by omega) (by omega), bind_ok', ixq2, bind_ok', law_leaves_ok y fuel (by omega) (by omega), bind_ok', add_l (by simp only [List.length_map]; omega), bind_ok', ← List.map_append]
    rfl
theorem srt_okL {h : List Nat} (hl : h.length < 64) : z1o .srtSet (.lst (nl h)) = .ok (nl (ascN h)) := by
  unfold z1o p1
  simp only [intsD_nl, Option.bind_some]
  rw [if_pos (by simpa using hl), asc_nl]
  rfl
theorem lvs_le8 {r : Rul} (h : r.dep ≤ 4) : (lvs r).length ≤ 8 := Nat.le_trans (lvs_len r) (by
  have : 2 ^ (r.dep - 1) ≤ 2 ^ 3 := Nat.pow_le_pow_right (by decide) (by omega)
  omega)
/-- the parameters to which thresholds refer -/
def RTh.par? : RTh → Option Nat
  | .num _ => none
  | .par k => some k
def Rul.num : Rul → Option Nat
  | .yeas _ th => th.par?
  | .quo _ th => th.par?
  | _ => none
def numL (L : List Rul) : List Nat := L.filterMap Rul.num
theorem fmO_nl {β : Type} (L : List β) (f : β → Option Nat) : L.filterMap (fun l => (f l).map fun k : Nat => D.int k) = nl (L.filterMap f) := by
  unfold nl
  rw [List.map_filterMap]
theorem law_chambers_ok {r : Rul} (h : r.dep ≤ 4) : f_law_chambers_of (rlD r) = .ok (nl (ascN (chsL (lvs r)))) := by
  have hz := SZ2
  have hl := lvs_le8 h
  unfold f_law_chambers_of
  rw [law_leaves_ok r 30 (by omega) (by omega), bind_ok', it_seqL, bind_ok', comp_eq rlD (fun l => l.one.map fun k : Nat => D.int k) (by omega) (fun l hm => by
    rcases lvs_simple r l hm with rfl | ⟨c, e⟩
    · show (z2 .ix (.tup [.str "premier"]) (.int 0)).bind _ = _
      rw [ixq0, bind_ok', ne_of_eq sq_premier_premier, bind_ok', ite_b, if_neg (by decide)]
      rfl
    · have h0 : z2 .ix (rlD l) (.int 0) = .ok (.str l.kd) := by cases l <;> first | (cases e; done) | exact ixq0
      have h1 : z2 .eq (.str l.kd) (.str "premier") = .ok (.bl false) := by
        cases l <;> first | (cases e; done) | exact sq_yeas_premier | exact sq_quorum_premier | exact sq_majority_premier | exact sq_fraction_premier
      rw [h0, bind_ok', ne_of_eq h1, bind_ok', ite_b, if_pos (by decide), rl_one e, bind_ok', e]
      rfl), bind_ok', fmO_nl, srt_okL (h := (lvs r).filterMap Rul.one) (by have := List.length_filterMap_le Rul.one (lvs r); omega), bind_ok']
  rfl
theorem iq_yeas : z2 .inn (.str "yeas") (.lst [.str "yeas", .str "quorum"]) = .ok (.bl true) := rfl
theorem iq_quorum : z2 .inn (.str "quorum") (.lst [.str "yeas", .str "quorum"]) = .ok (.bl true) := rfl
theorem iq_majority : z2 .inn (.str "majority") (.lst [.str "yeas", .str "quorum"]) = .ok (.bl false) := rfl
theorem iq_fraction : z2 .inn (.str "fraction") (.lst [.str "yeas", .str "quorum"]) = .ok (.bl false) := rfl
theorem iq_premier : z2 .inn (.str "premier") (.lst [.str "yeas", .str "quorum"]) = .ok (.bl false) := rfl
theorem it_yeas : z2 .inn (.str "yeas") (.tup [.str "yeas", .str "quorum"]) = .ok (.bl true) := rfl
theorem it_quorum : z2 .inn (.str "quorum") (.tup [.str "yeas", .str "quorum"]) = .ok (.bl true) := rfl
theorem it_majority : z2 .inn (.str "majority") (.tup [.str "yeas", .str "quorum"]) = .ok (.bl false) := rfl
theorem it_fraction : z2 .inn (.str "fraction") (.tup [.str "yeas", .str "quorum"]) = .ok (.bl false) := rfl
def nstep (s : List D) (l : Rul) : List D := match l.num with
  | none => s
  | some k => s ++ [.int k]
theorem nfold : ∀ (L : List Rul) (acc : List Nat), L.foldl nstep (nl acc) = nl (acc ++ numL L)
  | [], acc => by simp [numL]
  | l :: L, acc => by
    rw [List.foldl_cons]
    unfold numL
    rw [List.filterMap_cons]
    cases h : l.num with
    | none =>
      have : nstep (nl acc) l = nl acc := by unfold nstep; rw [h]
      rw [this, nfold L acc]
      rfl
    | some k =>
      have : nstep (nl acc) l = nl (acc ++ [k]) := by unfold nstep; rw [h]; simp [nl]
      rw [this, nfold L]
      simp [numL]
theorem law_numbers_ok {r : Rul} (h : r.dep ≤ 4) : f_law_numbers_of (rlD r) = .ok (nl (ascN (numL (lvs r)))) := by
  have hz := SZ2
  have hl := lvs_le8 h
  unfold f_law_numbers_of
  rw [law_leaves_ok r 30 (by omega) (by omega), bind_ok', it_seqL, bind_ok']
  have step : ∀ l : Rul, (l = .prem ∨ ∃ c, l.one = some c) → ∀ s : List D, s.length < 100 → (z2 .ix (rlD l) (.int 0)).bind (fun r6 =>
    (z2 .inn r6 (D.lst [(D.str "yeas"), (D.str "quorum")])).bind fun r7 =>
    (zand r7 ((z2 .ix (rlD l) (D.int 2)).bind fun r8 =>
      (z1 (.isi 0) r8).bind fun r9 =>
      (z1 .truth r9).bind fun r10 =>
      .ok r10)).bind fun r11 =>
    zite r11 (
    (z2 .ix (rlD l) (D.int 2)).bind fun r12 =>
      (z2 .ix r12 (D.int 1)).bind fun r13 =>
      (zapp s r13).bind fun l14 =>
      .ok l14) (
    .ok s)) = .ok (nstep s l) := by
    intro l hl s hs
    rcases hl with rfl | ⟨c, e⟩
    · show (z2 .ix (.tup [.str "premier"]) (.int 0)).bind _ = _
      rw [ixq0, bind_ok', iq_premier, bind_ok', and_b, if_neg (by decide), bind_ok', ite_b, if_neg (by decide)]
      rfl
    · cases l with
      | prem => cases e
      | all _ _ => cases e
      | any _ _ => cases e
      | maj c s => simp only [rlD]; rw [ixq0, bind_ok', iq_majority, bind_ok', and_b, if_neg (by decide), bind_ok', ite_b, if_neg (by decide)]; rfl
      | frac c p q s => simp only [rlD]; rw [ixq0, bind_ok', iq_fraction, bind_ok', and_b, if_neg (by decide), bind_ok', ite_b, if_neg (by decide)]; rfl
      | yeas c th =>
        simp only [rlD]
        rw [ixq0, bind_ok', iq_yeas, bind_ok', and_b, if_pos rfl, ixq2, bind_ok']
        cases th with
        | num n => simp only [rthD]; rw [isi0_i, bind_ok', tr_b, bind_ok', bind_ok', ite_b, if_neg (by decide)]; rfl
        | par k => simp only [rthD]; rw [isi0_t, bind_ok', tr_b, bind_ok', bind_ok', ite_b, if_pos rfl, bind_ok', ixq1, bind_ok', G.app_ok (by omega), bind_ok']; rfl
      | quo c th =>
        simp only [rlD]
        rw [ixq0, bind_ok', iq_quorum, bind_ok', and_b, if_pos rfl, ixq2, bind_ok']
        cases th with
        | num n => simp only [rthD]; rw [isi0_i, bind_ok', tr_b, bind_ok', bind_ok', ite_b, if_neg (by decide)]; rfl
        | par k => simp only [rthD]; rw [isi0_t, bind_ok', tr_b, bind_ok', bind_ok', ite_b, if_pos rfl, bind_ok', ixq1, bind_ok', G.app_ok (by omega), bind_ok']; rfl
  have run : ∀ (L : List Rul) (s : List D), (∀ l ∈ L, l = .prem ∨ ∃ c, l.one = some c) → s.length + L.length ≤ 50 → foldZ (fun d4 (s2 : List D) =>
  (z2 .ix d4 (D.int 0)).bind fun r6 =>
    (z2 .inn r6 (D.lst [(D.str "yeas"), (D.str "quorum")])).bind fun r7 =>
    (zand r7 ((z2 .ix d4 (D.int 2)).bind fun r8 =>
      (z1 (.isi 0) r8).bind fun r9 =>
      (z1 .truth r9).bind fun r10 =>
      .ok r10)).bind fun r11 =>
    zite r11 (
    (z2 .ix d4 (D.int 2)).bind fun r12 =>
      (z2 .ix r12 (D.int 1)).bind fun r13 =>
      (zapp s2 r13).bind fun l14 =>
      .ok l14) (
    .ok s2)) (L.map rlD) s = .ok (L.foldl nstep s) := by
    intro L
    induction L with
    | nil => intro s _ _; rfl
    | cons l L ih =>
      intro s hL hs
      rw [List.map_cons]
      simp only [foldZ, List.length_cons] at hs ⊢
      rw [step l (hL l (List.mem_cons_self ..)) s (by omega), bind_ok', List.foldl_cons]
      refine ih _ (fun x hx => hL x (List.mem_cons_of_mem _ hx)) ?_
      have : (nstep s l).length ≤ s.length + 1 := by unfold nstep; split <;> simp
      omega
  rw [run (lvs r) [] (lvs_simple r) (by simp; omega), bind_ok', show ([] : List D) = nl [] from rfl, nfold, List.nil_append, srt_okL (by have := List.length_filterMap_le Rul.num (lvs r); unfold numL; omega), bind_ok']
theorem named_ok {r : Rul} (h : r.dep ≤ 4) : f_named (rlD r) = .ok (.tup [tr (ascN (chsL (lvs r))), tr (ascN (numL (lvs r)))]) := by
  have hz := SZ2
  have hl := lvs_le8 h
  unfold f_named
  rw [leaves_ok r 30 (by omega) (by omega), bind_ok', it_seqL, bind_ok']
  have e1 : ∀ l ∈ lvs r, ((z2 .ix (rlD l) (D.int 0)).bind fun r5 => (z2 .ne r5 (D.str "premier")).bind fun r6 => zite r6 (.ok (some (rlD l))) (.ok none)) = .ok ((if l.isP then none else some l).map rlD) := by
    intro l hm
    rcases lvs_simple r l hm with rfl | ⟨c, e⟩
    · show (z2 .ix (.tup [.str "premier"]) (.int 0)).bind _ = _
      rw [ixq0, bind_ok', ne_of_eq sq_premier_premier, bind_ok', ite_b, if_neg (by decide)]
      rfl
    · have h0 : z2 .ix (rlD l) (.int 0) = .ok (.str l.kd) := by cases l <;> first | (cases e; done) | exact ixq0
      have h1 : z2 .eq (.str l.kd) (.str "premier") = .ok (.bl false) := by
        cases l <;> first | (cases e; done) | exact sq_yeas_premier | exact sq_quorum_premier | exact sq_majority_premier | exact sq_fraction_premier
      rw [h0, bind_ok', ne_of_eq h1, bind_ok', ite_b, if_pos (by decide)]
      cases l <;> first | (cases e; done) | rfl
  rw [comp_eq rlD (fun l => (if l.isP then none else some l).map rlD) (by omega) e1, bind_ok']
  have e2 : (lvs r).filterMap (fun l => (if l.isP then none else some l).map rlD) = ((lvs r).filter fun l => !l.isP).map rlD := by
    induction lvs r with
    | nil => rfl
    | cons l L ih =>
      rw [List.filterMap_cons, List.filter_cons, ih]
      cases l.isP <;> rfl
  rw [e2]
  have hs : ∀ l ∈ (lvs r).filter (fun l => !l.isP), ∃ c, l.one = some c := fun l hm => by
    obtain ⟨h1, h2⟩ := List.mem_filter.mp hm
    rcases lvs_simple r l h1 with rfl | q
    · cases h2
    · exact q
  have c1 : chsL ((lvs r).filter fun l => !l.isP) = chsL (lvs r) := by
    unfold chsL
    induction lvs r with
    | nil => rfl
    | cons l L ih =>
      rw [List.filter_cons, List.filterMap_cons]
      cases l <;> first | exact ih | exact congrArg (_ :: ·) ih
  have c2 : numL ((lvs r).filter fun l => !l.isP) = numL (lvs r) := by
    unfold numL
    induction lvs r with
    | nil => rfl
    | cons l L ih =>
      rw [List.filter_cons, List.filterMap_cons]
      cases l with
      | prem => exact ih
      | all _ _ => exact ih
      | any _ _ => exact ih
      | maj _ _ => exact ih
      | frac _ _ _ _ => exact ih
      | yeas c th => show List.filterMap Rul.num (Rul.yeas c th :: _) = _; rw [List.filterMap_cons, ih]
      | quo c th => show List.filterMap Rul.num (Rul.quo c th :: _) = _; rw [List.filterMap_cons, ih]
  have hl2 : ((lvs r).filter fun l => !l.isP).length ≤ 8 := Nat.le_trans (List.length_filter_le _ _) hl
  rw [← c1, ← c2]
  generalize (lvs r).filter (fun l => !l.isP) = L at hs hl2
  obtain ⟨m1, m2⟩ := chs_map hs
  rw [it_seqL, bind_ok', map_eq rlD (fun l => D.int ((l.one).getD 0 : Nat)) (by omega) (fun l hm => by
    obtain ⟨c, e⟩ := hs l hm
    rw [rl_one e, bind_ok', e]
    rfl), bind_ok', show (L.map fun l => D.int ((l.one).getD 0 : Nat)) = nl (chsL L) by rw [← m1]; simp [nl], bind_ok',
    comp_eq rlD (fun l => match l with | .yeas _ th => some (rthD th) | .quo _ th => some (rthD th) | _ => none) (by omega) (fun l hm => by
      obtain ⟨c, e⟩ := hs l hm
      cases l with
      | prem => cases e
      | all _ _ => cases e
      | any _ _ => cases e
      | maj c s => simp only [rlD]; rw [ixq0, bind_ok', it_majority, bind_ok', ite_b, if_neg (by decide)]
      | frac c p q s => simp only [rlD]; rw [ixq0, bind_ok', it_fraction, bind_ok', ite_b, if_neg (by decide)]
      | yeas c th => simp only [rlD]; rw [ixq0, bind_ok', it_yeas, bind_ok', ite_b, if_pos rfl, ixq2, bind_ok']
      | quo c th => simp only [rlD]; rw [ixq0, bind_ok', it_quorum, bind_ok', ite_b, if_pos rfl, ixq2, bind_ok']), bind_ok']
  have t1 : L.filterMap (fun l => match l with | .yeas _ th => some (rthD th) | .quo _ th => some (rthD th) | _ => none) = (L.filterMap fun l => match l with | .yeas _ th => some th | .quo _ th => some th | _ => none).map rthD := by
    rw [List.map_filterMap]
    congr 1
    funext l
    cases l <;> rfl
  have t2 : (L.filterMap fun l => match l with | .yeas _ th => some th | .quo _ th => some th | _ => none).filterMap RTh.par? = numL L := by
    rw [List.filterMap_filterMap]
    unfold numL
    congr 1
    funext l
    cases l <;> rfl
  have t3 := List.length_filterMap_le (fun l : Rul => match l with | .yeas _ th => some th | .quo _ th => some th | _ => none) L
  rw [t1, it_seqL, bind_ok']
  rw [← t2]
  generalize (L.filterMap fun l => match l with | .yeas _ th => some th | .quo _ th => some th | _ => none) = ths at t3
  rw [comp_eq rthD (fun th => th.par?.map fun k : Nat => D.int k) (by omega) (fun th _ => by
    cases th with
    | num n => simp only [rthD]; rw [isi0_i, bind_ok', tr_b, bind_ok', ite_b, if_neg (by decide)]; rfl
    | par k => simp only [rthD]; rw [isi0_t, bind_ok', tr_b, bind_ok', ite_b, if_pos rfl, ixq1, bind_ok']; rfl), bind_ok', fmO_nl, srt_okL (by rw [m2]; omega), bind_ok', tupl_l, bind_ok', srt_okL (by have := List.length_filterMap_le RTh.par? ths; omega), bind_ok', tupl_l, bind_ok']
  rfl
/-! ### what a rule does not name counts for nothing -/
theorem evR_cong {ps ps' : List Nat} {T U : Nat → T4} {b b' : Bool} : ∀ r : Rul, (∀ c ∈ chsL (lvs r), T c = U c) → (∀ k ∈ numL (lvs r), ps.getD k 0 = ps'.getD k 0) → ((lvs r).any Rul.isP = true → b = b') → evR ps T b r = evR ps' U b' r
  | .prem, _, _, h => h rfl
  | .all x y, h1, h2, h3 => by
    simp only [evR]
    simp only [lvs, chsL, numL, List.filterMap_append, List.any_append, Bool.or_eq_true, List.mem_append] at h1 h2 h3
    rw [evR_cong x (fun c hc => h1 c (.inl hc)) (fun k hk => h2 k (.inl hk)) (fun z => h3 (.inl z)), evR_cong y (fun c hc => h1 c (.inr hc)) (fun k hk => h2 k (.inr hk)) (fun z => h3 (.inr z))]
  | .any x y, h1, h2, h3 => by
    simp only [evR]
    simp only [lvs, chsL, numL, List.filterMap_append, List.any_append, Bool.or_eq_true, List.mem_append] at h1 h2 h3
    rw [evR_cong x (fun c hc => h1 c (.inl hc)) (fun k hk => h2 k (.inl hk)) (fun z => h3 (.inl z)), evR_cong y (fun c hc => h1 c (.inr hc)) (fun k hk => h2 k (.inr hk)) (fun z => h3 (.inr z))]
  | .yeas c th, h1, h2, h3 => by
    simp only [evR]
    rw [h1 c (by simp [lvs, chsL, Rul.one])]
    cases th with
    | num n => rfl
    | par k =>
      have := h2 k (by simp [lvs, numL, Rul.num, RTh.par?])
      rw [Bool.eq_iff_iff]; simp only [smT, smp, RTh.v, decide_eq_true_eq, this]; exact decide_eq_true_iff.symm
  | .quo c th, h1, h2, h3 => by
    simp only [evR]
    rw [h1 c (by simp [lvs, chsL, Rul.one])]
    cases th with
    | num n => rfl
    | par k =>
      have := h2 k (by simp [lvs, numL, Rul.num, RTh.par?])
      rw [Bool.eq_iff_iff]; simp only [smT, smp, RTh.v, decide_eq_true_eq, this]; exact decide_eq_true_iff.symm
  | .maj c s, h1, h2, h3 => by
    simp only [evR]
    rw [h1 c (by simp [lvs, chsL, Rul.one])]
    rfl
  | .frac c p q s, h1, h2, h3 => by
    simp only [evR]
    rw [h1 c (by simp [lvs, chsL, Rul.one])]
    rfl
theorem fm_congr {α β : Type} {f g : α → Option β} : ∀ {l : List α}, (∀ x ∈ l, f x = g x) → l.filterMap f = l.filterMap g
  | [], _ => rfl
  | x :: l, h => by rw [List.filterMap_cons, List.filterMap_cons, h x (List.mem_cons_self ..), fm_congr fun y hy => h y (List.mem_cons_of_mem _ hy)]
theorem inn_ho {m : Nat} {K : List (Option Nat)} : z2 .inn (.int m) (.lst (K.map ho)) = .ok (.bl (decide (some m ∈ K))) := by
  unfold z2 p2 pIn
  have h1 : (flatD (.int m) && (K.map ho).all flatD) = true := by
    rw [Bool.and_eq_true]
    refine ⟨rfl, List.all_eq_true.mpr fun d hd => ?_⟩
    obtain ⟨o, _, rfl⟩ := List.mem_map.mp hd
    cases o <;> rfl
  dsimp only
  rw [if_pos h1]
  simp only [zval, Bool.false_eq_true, if_false]
  congr 2
  rw [Bool.eq_iff_iff, List.any_map, List.any_eq_true, decide_eq_true_eq]
  constructor
  · rintro ⟨o, ho, e⟩
    cases o with
    | none => cases e
    | some x =>
      have : x = m := by
        simp only [Function.comp, G.ho, eqF, beq_iff_eq] at e
        omega
      exact this ▸ ho
  · intro h
    exact ⟨some m, h, by simp [Function.comp, G.ho, eqF]⟩
theorem rep12 : z2 .mul (.str "-") (.int 12) = .ok (.str (rolS (List.replicate 12 .a))) := mul_dash (by decide) (by decide)
theorem list_rol {vs : List Vt} (h : vs.length ≤ 1000) : z1o .list (.str (rolS vs)) = .ok (vs.map fun v => D.str v.s) := by
  have hz := SZ2
  unfold z1o p1 pList
  dsimp only
  rw [if_pos (by rw [rol_len]; omega)]
  show Z.ok (chD (rolS vs)) = _
  congr 1
  unfold chD
  rw [rol_cps, List.map_map]
  refine List.map_congr_left fun v _ => ?_
  cases v <;> rfl
end G
set_option maxHeartbeats 1000000
namespace RT
open PySem PySem.Spec PyProof.Rows
/-! ### tuple(reversed(tuple)) -/
theorem IsTup.keep {h h' : Heap} {a : Addr} {xs : Array Value} (x : IsTup h a xs) (e : ∀ o, h.get? a = some o → h'.get? a = some o) : IsTup h' a xs := by
  obtain ⟨o, ho, r⟩ := x
  exact ⟨o, e _ ho, r⟩
section
variable {prog : Program} {w : World} {A : Around} {E : Value → Shared → Prop} {s : Shared}
end
section
variable {prog : Program} {w : World} {A : Around} {E : Value → Shared → Prop} {s : Shared}
end
end RT
set_option maxHeartbeats 1000000
namespace GW
open PySem PySem.Spec PyProof.Rows L2 RT
section
variable {X : Cx}
end
end GW
namespace G
open PySem PySem.Spec PyProof.Rows L2
variable [Tb]
section
variable {C : Cfg} {W : WX} {Φ : Fn} {shs : Nat → Nat → Shape} {x y : Expr} {a b : E} {pos : Pos}
/-! ### a dict of the module, texts to rows of texts -/
end
section
variable {C : Cfg} {W : WX} {Φ : Fn} {shs : Nat → Nat → Shape} {x y : Expr} {a b : E} {pos : Pos}
/-! ### tuple(reversed(x)) -/
end
end G
set_option maxHeartbeats 1000000
namespace GX
open PySem PySem.Spec PyProof.Rows L2 PySem.W
/-! ### sorted(xs), xs a list of tuples of numbers -/
section
variable {X : Cx}
end
end GX
namespace GU
open PySem PySem.Spec PyProof.Rows L2
/-! ### set(t), t a tuple of tuples of numbers -/
section
variable {P : Program} {w : World} {A : Around} {E : Value → Shared → Prop} {s : Shared}
end
section
variable {X : Cx}
end
end GU
namespace G
open PySem PySem.Spec PyProof.Rows L2
variable [Tb]
section
variable {C : Cfg} {W : WX} {Φ : Fn} {shs : Nat → Nat → Shape} {x y : Expr} {a b : E} {pos : Pos}
/-! ### sorted(list of rows) -/
/-! ### len(set(tuple of rows)) -/
end
end G
set_option maxHeartbeats 1000000
namespace GK
open PySem PySem.Calls PyProof.Rows PySem.W
/-! ### sorted(xs, key=f), the calls of f with any state -/
section
variable {prog : Program} {w : World} {A : Around} {E : Value → Shared → Prop} {s : Shared} {a kS : Addr} {f : Value} {vs : List Value} {kz : List PyData} {e1 : Nat} {P : PySem.Fin → Shared → Prop}
end
end GK
set_option maxHeartbeats 1000000
namespace GK
open PySem PySem.Calls PyProof.Rows PySem.W
section
variable {prog : Program} {w : World} {A : Around} {E : Value → Shared → Prop} {s : Shared}
end
end GK
set_option maxHeartbeats 1000000
namespace GK
open PySem PySem.Spec PyProof.Rows L2 PySem.W
section
variable {X : Cx} {pins : List (Addr × Obj)} {σ : L2.St} {H : Hp} {s : Shared}
end
end GK
namespace G
open PySem PySem.Spec PyProof.Rows L2
variable [Tb]
section
variable {C : Cfg} {W : WX} {M H M1 H1 : Hp} {σ : L2.St} {nv nv1 : Nv} {Φ : Fn} {x : Expr} {a : E} {p pos : Pos}
/-! ### sorted(xs, key=f), f a def of the program -/
end
end G
namespace G
open PySem PySem.Spec PyProof.Rows L2
variable [Tb]
section
variable {C : Cfg} {W : WX} {M H M1 H1 : Hp} {σ σ' : L2.St} {nv nv1 : Nv} {Φ : Fn} {shs : Nat → Nat → Shape} {K : PySem.W.Frag}
/-! ### a comprehension over a list of one's own, which stays one's own -/
end
end G
namespace G
open PySem PySem.Spec PyProof.Rows L2
variable [Tb]
/-! ### calls with every keyword written; sorted(xs, reverse=True) -/
theorem kwbinds {K : PySem.W.Frag} {x qual : Str} {st : Stmt} {f : Addr} {fd : FuncData} {ps ks : List Str} (n : Nat) (F : Fun K x qual st f fd)
    (h : ∀ (kV doc pm : Value) (an : Option Addr) (cdv ct : Value) (us ws : List Value), us.length = n → ws.length = ks.length → bindArgs (PySem.W.fnOf x qual (defArgs st) (defBody st) (defScope st) .none kV doc pm an cdv ct) ⟨us, ks.zip ws⟩ = pure (ps.zip (us ++ ws))) :
    ∀ (s : Shared) (us ws : List Value), us.length = n → ws.length = ks.length → BindsTo s fd ⟨us, ks.zip ws⟩ (ps.zip (us ++ ws)) := by
  obtain ⟨oc, od, kV, doc, pm, an, cdv, ct, osl, rfl, lk, hcd⟩ := F.ex
  exact fun s us ws h1 h2 => .of_eq (h kV doc pm an cdv ct us ws h1 h2)
theorem shok_kw {K : PySem.W.Frag} {fd : FuncData} {ps ks : List Str} (n m : Nat) (hn : ps.length = m) (hm : n + ks.length = m) (b : ∀ (s : Shared) (us ws : List Value), us.length = n → ws.length = ks.length → BindsTo s fd ⟨us, ks.zip ws⟩ (ps.zip (us ++ ws))) : ShOk K fd ps ks n ((List.range m).map .inl) := by
  refine ⟨fun us ws => us ++ ws, fun s us ws _ hl hw => b s us ws hl hw, fun M σ os os' vs zs us ws hl hw hv hz ho ha => ?_⟩
  have e := arrO_range (by rw [ho.len, List.length_append, vals_len hv, vals_len hz, hl, hw, hm]) ha
  subst e
  exact ⟨vs ++ zs, hv.append hz, ho, by rw [List.length_append, vals_len hv, vals_len hz, hl, hw, hm, hn]⟩
section
variable {C : Cfg} {W : WX} {Φ : Fn} {shs : Nat → Nat → Shape} {x : Expr} {a : E} {pos : Pos}
def KwS (C : Cfg) (W : WX) (Φ : Fn) (shs : Nat → Nat → Shape) (es : List Expr) (fs : List E) : Prop := ∀ (e : Expr) (f : E) (n : Nat), es[n]? = some e → fs[n]? = some f → isBrw f = false ∧ SndE C W e (evE Φ shs f)
theorem kwS_nil : KwS C W Φ shs [] [] := fun e f n h => by simp at h
theorem kwS_cons {es : List Expr} {fs : List E} (hb : isBrw a = false) (h : SndE C W x (evE Φ shs a)) (hr : KwS C W Φ shs es fs) : KwS C W Φ shs (x :: es) (a :: fs) := fun e f n h1 h2 => by
  cases n with
  | zero => cases h1; cases h2; exact ⟨hb, h⟩
  | succ n => exact hr e f n (by simpa using h1) (by simpa using h2)
end
end G
namespace G
open PySem PySem.Spec PyProof.Rows L2
variable [Tb]
/-! ### a for over a list of one's own, which stays one's own -/
/-- the slot i is not stored to -/
def Cfg.hold (C : Cfg) (i : Nat) : Cfg := { C with pr := i :: C.pr, st := fun x => C.st x && !decide (C.N[i]? = some x) }
section
variable {C : Cfg} {W : WX} {M H M1 H1 : Hp} {σ σ' : L2.St} {nv nv1 : Nv} {Φ : Fn} {shs : Nat → Nat → Shape}
theorem PrOk.hold (po : PrOk C) {i : Nat} : PrOk (C.hold i) := fun x j hs hN hj => by
  obtain ⟨h1, h2⟩ := (Bool.and_eq_true _ _).mp hs
  rcases List.mem_cons.mp hj with e | e
  · subst e
    have hN : C.N[j]? = some x := hN
    simp [hN] at h2
  · exact po x j h1 hN e
theorem AtE.hold {X : Cx} (h : AtE C W X) (i : Nat) : AtE (C.hold i) W X :=
  ⟨h.prog, h.w, h.K, h.mg, h.base, h.N, h.sc, h.calm, h.room, h.nd, h.tk, fun x hx => h.fn x ((Bool.and_eq_true _ _).mp hx).1, h.cd⟩
theorem AtS.hold {X : Cx} (h : AtS C W X) (i : Nat) : AtS (C.hold i) W X := ⟨h.e.hold i, h.po, h.stk, h.fr, h.ex⟩
theorem FtOk.hold {ft : Nat → Option FnI} {T : ShT} (F : FtOk C Φ ft T) (i : Nat) : FtOk (C.hold i) Φ ft T := ⟨F.at_, F.sh⟩
theorem BltOk.hold (B : BltOk C) (i : Nat) : BltOk (C.hold i) := B
end
end G
namespace G
open PySem PySem.Spec PyProof.Rows L2
variable [Tb]
/-! ### cells: known for a call, and unknown again -/
open Classical in
/-- the heap without the addresses S -/
noncomputable def cutH (S : Addr → Prop) (H : Hp) : Hp := fun a => if S a then none else H a
open Classical in
/-- the objects at S are known -/
noncomputable def pinH (S : Addr → Prop) (h : Heap) (H : Hp) : Hp := fun a => if S a then (h.get? a).map fun ob => HO.frz ob (.ext fun _ => True) else H a
def PinS (S : Addr → Prop) (M : Hp) : Prop := ∀ c, S c → ∃ ob, M c = some (.frz ob (.ext fun _ => True))
section
variable {S : Addr → Prop} {K : PySem.W.Frag} {M M' H H' : Hp} {h : Heap} {a : Addr} {P : Program} {w : World}
theorem cut_in (s : S a) : cutH S H a = none := if_pos s
theorem cut_out (s : ¬ S a) : cutH S H a = H a := if_neg s
theorem cut_some {o : HO} (e : cutH S H a = some o) : ¬ S a ∧ H a = some o := by
  by_cases s : S a
  · rw [cut_in s] at e; cases e
  · rw [cut_out s] at e; exact ⟨s, e⟩
theorem cut_keep (p : PinS S H) {o : HO} (e : H a = some o) (n : ∀ ob, o ≠ .frz ob (.ext fun _ => True)) : cutH S H a = some o := by
  rw [cut_out]
  · exact e
  · intro s
    obtain ⟨ob, e2⟩ := p a s
    rw [e] at e2
    exact n ob (Option.some.inj e2)
theorem pin_out (s : ¬ S a) : pinH S h H a = H a := if_neg s
theorem pin_in (s : S a) {ob : Obj} (e : h.get? a = some ob) : pinH S h H a = some (.frz ob (.ext fun _ => True)) := by
  unfold pinH
  rw [if_pos s, e]
  rfl
theorem PinS.mono (p : PinS S M) (e : Same M M') : PinS S M' := fun c s => by
  obtain ⟨ob, h⟩ := p c s
  exact ⟨ob, e _ _ h⟩
theorem cut_sqn (p : PinS S M) {xs : List V} (q : GT.SqN K M a xs) : GT.SqN K (cutH S M) a xs := by
  rcases q with ⟨o, e, n⟩ | q
  · exact .inl ⟨o, cut_keep p e (fun ob z => by injection z with _ z; cases z), n⟩
  · exact .inr q
theorem cut_sql (p : PinS S M) {xs : List V} (q : SqL K M a xs) : SqL K (cutH S M) a xs := by
  rcases q with (q | ⟨o, q⟩) | q
  · exact .inl (.inl (cut_keep p q fun ob z => nomatch z))
  · exact .inl (.inr ⟨o, cut_keep p q fun ob z => by injection z with _ z; cases z⟩)
  · exact .inr q
mutual
theorem Rep.cut (p : PinS S M) : ∀ {d : D} {v : V}, Rep K M d v → Rep K (cutH S M) d v
  | .non, _, h => by simp only [Rep] at h ⊢; exact h
  | .bl _, _, h => by simp only [Rep] at h ⊢; exact h
  | .int _, _, h => by simp only [Rep] at h ⊢; exact h
  | .str _, _, h => by simp only [Rep] at h ⊢; exact h
  | .tup ds, _, h => by
    simp only [Rep] at h ⊢
    obtain ⟨a, vs, e1, e2, e3⟩ := h
    exact ⟨a, vs, e1, cut_sqn p e2, Reps.cut p e3⟩
  | .lst ds, _, h => by
    simp only [Rep] at h ⊢
    obtain ⟨a, vs, e1, e2, e3⟩ := h
    exact ⟨a, vs, e1, cut_keep p e2 (fun ob z => nomatch z), Reps.cut p e3⟩
  | .scr ns, _, h => by
    simp only [Rep] at h ⊢
    obtain ⟨a, e1, e2⟩ := h
    exact ⟨a, e1, cut_sql p e2⟩
  | .dct ks ds, _, h => by
    simp only [Rep] at h ⊢
    obtain ⟨a, vs, e1, e2, e3, e4⟩ := h
    exact ⟨a, vs, e1, cut_keep p e2 (fun ob z => nomatch z), e3, Reps.cut p e4⟩
theorem Reps.cut (p : PinS S M) : ∀ {ds : List D} {vs : List V}, Reps K M ds vs → Reps K (cutH S M) ds vs
  | [], _, h => by simp only [Reps] at h ⊢; exact h
  | d :: ds, _, h => by
    simp only [Reps] at h ⊢
    obtain ⟨v, vs', e1, e2, e3⟩ := h
    exact ⟨v, vs', e1, Rep.cut p e2, Reps.cut p e3⟩
end
theorem cut_tab (p : PinS S M) (p2 : PinS S H) {A : Addr} {q : Str} (t : TabM M H A q) : TabM (cutH S M) (cutH S H) A q := by
  obtain ⟨ps, h1, h2, h3⟩ := t
  refine ⟨ps, cut_keep p2 h1 (fun ob z => nomatch z), h2, fun pos cv hc => ?_⟩
  obtain ⟨c, e1, e2⟩ := h3 pos cv hc
  exact ⟨c, e1, cut_keep p e2 (fun ob z => nomatch z)⟩
theorem cut_hok (p : PinS S H) (k : HOk P w H h) : HOk P w (cutH S H) h := fun a o e => by
  obtain ⟨s, e⟩ := cut_some e
  exact (k a o e).stay (fun b u _ e => e) (fun b e => cut_keep p e fun ob z => nomatch z) (fun b xs e => cut_keep p e fun ob z => nomatch z)
theorem pin_same (n : ∀ c, S c → H c = none) : Same H (pinH S h H) := fun b o e => by
  rw [pin_out]
  · exact e
  · intro s
    rw [n b s] at e
    cases e
theorem pin_hok (n : ∀ c, S c → H c = none) (t : ∀ c, S c → ∃ ob, h.get? c = some ob) (k : HOk P w H h) : HOk P w (pinH S h H) h := fun a o e => by
  by_cases s : S a
  · obtain ⟨ob, e1⟩ := t a s
    rw [pin_in s e1] at e
    cases e
    exact ⟨e1, trivial, ⟨ob, e1⟩, fun _ _ _ _ => trivial⟩
  · rw [pin_out s] at e
    exact (k a o e).stay (fun b u _ e => e) (fun b e => pin_same n _ _ e) (fun b xs e => pin_same n _ _ e)
theorem pin_pins (t : ∀ c, S c → ∃ ob, h.get? c = some ob) : PinS S (pinH S h H) := fun c s => by
  obtain ⟨ob, e⟩ := t c s
  exact ⟨ob, pin_in s e⟩
end
section
variable {C : Cfg} {W : WX} {X : Cx} {pins : List (Addr × Obj)} {σ : L2.St} {H : Hp} {s : Shared} {S : Addr → Prop}
/-- a call during which the objects at S are known -/
theorem pin_call {f : Addr} {fd : FuncData} {ps : List Str} {sp : Sp} {Q : VK} {us bu : List Value} {vs : List V} (hX : AtE C W X) (F : FnOk C.P C.w C.K C.mg C.base (L2.CX C.P C.w) C.k f fd ps sp) (I : Inv X pins σ H s)
    (n : ∀ c, S c → H c = none) (t : ∀ c, S c → ∃ ob, s.heap.get? c = some ob) (nb : ∀ c, S c → X.base.get? c = none) (nf : ∀ c, S c → c ∉ frs X.stack) (b : BindsTo s fd ⟨us, []⟩ (ps.zip bu)) (r : Vals vs bu)
    (h : sp vs (pinH S s.heap H) (fun v H' => Q v (cutH S H')) fun _ _ _ => False) : wpAny (model X.prog X.w) X.A (call (.ref f) us []) (EP X pins σ Q) X.xe s := by
  have F' : FnOk X.prog X.w X.K X.mg X.base (L2.CX X.prog X.w) C.k f fd ps sp := by
    rw [hX.prog, hX.w, hX.K, hX.mg, hX.base]; exact F
  have e0 := I.env0
  have e1 : Env0 X.prog X.w X.K X.mg X.base X.A X.stack s (pinH S s.heap H) := ⟨e0.frames, e0.mod, fun b o e => ⟨(e0.bs b o e).1, by
      rw [pin_out]
      · exact (e0.bs b o e).2
      · intro z; rw [nb b z] at e; cases e⟩, e0.bsz, e0.funs, fun b hb => by
      rw [pin_out]
      · exact e0.frf b hb
      · exact fun z => nf b z hb, pin_hok n t e0.hok, e0.bare⟩
  refine wpAny_call (codeAny_mono (F'.run X.A X.stack s _ ⟨us, []⟩ bu vs _ _ (hX.room.mono (Nat.le_succ _)) e1 b r h) fun r s' hq => ?_)
  cases r with
  | error e => exact (cx_no hq).elim
  | ok fl =>
    cases fl with
    | next => exact False.elim hq
    | brk => exact False.elim hq
    | cont => exact False.elim hq
    | ret u =>
      obtain ⟨v, H', os, bare, un, hok, rv, q⟩ := hq
      have pS := pin_pins (H := H) t
      have pS' : PinS S H' := fun c z => by
        obtain ⟨ob, e⟩ := pS c z
        exact ⟨ob, un.frzs c ob _ e⟩
      have pn : ∀ b, ¬ S b → H b = none → pinH S s.heap H b = none := fun b z e => by rw [pin_out z]; exact e
      refine I.after ⟨v, cutH S H', os, bare, ⟨fun b o e z hb hx => ?_, fun b o e z hb hx => ?_, fun b o e z hx => ?_, fun b o e hx => un.there b o e hx, fun b xs e => ?_, fun b o u e => ?_, fun b ps e => ?_⟩, cut_hok pS' hok, rv, q⟩
      · by_cases hs : S b
        · obtain ⟨ob, e2⟩ := t b hs
          have e3 := un.frzs b ob _ (pin_in (H := H) hs e2)
          have e4 := (hok b _ e3).1
          rw [e] at e2
          cases e2
          exact e4
        · exact un.keep b o e (pn b hs z) hb hx
      · exact un.slot b o e (pn b (fun hs => nf b hs hb) z) hb hx
      · by_cases hs : S b
        · exact cut_in hs
        · rw [cut_out hs]; exact un.free b o e (pn b hs z) hx
      · exact cut_keep pS' (un.tups b xs (pin_same n _ _ e)) fun ob z => nomatch z
      · have e2 := un.frzs b o u (pin_same n _ _ e)
        rw [cut_out]
        · exact e2
        · intro z; rw [n b z] at e; cases e
      · obtain ⟨more, e2⟩ := un.tbls b ps (pin_same n _ _ e)
        exact ⟨more, cut_keep pS' e2 fun ob z => nomatch z⟩
end
end G
namespace G
open PySem PySem.Spec PyProof.Rows L2 LamX
variable [Tb]
section
variable {X : Cx} {pins : List (Addr × Obj)} {σ : L2.St} {H : Hp} {s : Shared}
/-- an object just made is known from now on -/
theorem inv_frz {o : Obj} {t' : Nat} (hf : o.isFreed = false) (I : Inv X pins σ H s) : Inv X pins σ (upd H s.heap.objs.size (.frz o (.ext fun _ => True))) { s with heap := s.heap.push o, toks := t' } := by
  have e : (s.heap.push o).get? s.heap.objs.size = some o := Heap.get?_push_size _ hf
  exact I.laid (a := s.heap.objs.size) (fun b u e => Heap.get?_push_of_some _ e) (Nat.le_refl _) ⟨e, trivial, ⟨_, e⟩, fun _ _ _ _ => trivial⟩
abbrev lamObj (qual : Str) (params : Arguments) (body : Expr) (scope : Scope) (clo : List (Str × Addr)) (pm : Value) (c' : Addr) (ctv : Value) : Obj := PySem.W.kla_obj "<lambda>" qual params body scope clo pm c' ctv
/-- the lambda is made, and known from now on -/
theorem lam_made {M : Hp} {c P : Addr} {q : Str} {params : Arguments} {body : Expr} {scope : Scope} {pos : Pos} {E : Value → Shared → Prop} {Q : Value → Shared → Prop} (I : Inv X pins σ H s) (sM : Same M H) (TB : TabB X.base X.mg c P) (hcode : X.env.code = .ref c) (hq : X.env.qual ++ "<lambda>" = q)
    (hm : (P, q) ∈ Tb.tabs) (hu : ∀ p ∈ Tb.tabs, p.1 = P → p.2 = q) (hT : ∀ p ∈ Tb.tabs, TabM M H p.1 p.2) (hdef : defaultsOf params X.env = ([], [])) (hfree : ∀ y ∈ scope.names, y.2 = .free → ∃ c, X.env.cells.lookup y.1 = some c)
    (h : ∀ (f c' : Addr) (pm ctv : Value) (H1 : Hp) (s' : Shared), Inv X pins σ H1 s' → (∀ b o, H b = some o → b ≠ P → H1 b = some o) → (∀ p ∈ Tb.tabs, TabM (upd M c' (CodeO c' q)) H1 p.1 p.2) → (∀ b, H1 b = none → H b = none) → H f = none →
      H1 f = some (.frz (lamObj q params body scope (cloFrom X.env.cells scope.names []) pm c' ctv) (.ext fun _ => True)) → H1 c' = some (CodeO c' q) → (H c' = none ∨ M c' = some (CodeO c' q)) → f ≠ c' → Q (.ref f) s') :
    wpAny (model X.prog X.w) X.A (eval (.Lambda params body scope pos) X.env) Q E s := by
  subst hq
  obtain ⟨ps, hP, ht, ha⟩ := hT _ hm
  refine PySem.W.kla_eval hdef ?_
  have bP : s.heap.BuiltinsAt X.mg P := TB.bm.keeps I.bk
  have hP' : s.heap.get? P = some { cls := .none, data := .fields ps } := I.hok P _ hP
  cases hc : codeAmong pos ps.toList with
  | none =>
    refine PySem.W.kla_makeFunction (mg := X.mg) (c := c) (P := P) (ps := ps) (closure_ok hfree) I.ok.glob (I.mod.glob.keeps I.bk) hcode (TB.code.keeps I.bk) hP' ht hc TB.gP bP fun c' ctv h' tk hx hge hlt hrec htb => ?_
    obtain ⟨c2, oc, vs, t, e2, hoc, hd, hv⟩ := hrec
    cases e2
    have nC : H c' = none := I.hok.fresh hge
    have nM : M c' = none := by
      cases e : M c' with
      | none => rfl
      | some o => rw [sM _ _ e] at nC; cases nC
    have I1 := inv_table (t' := tk) (more := #[rawInt pos.line, rawInt pos.col, .ref c']) (h' := h') I hP (fun b o hb e => hx b o hb e) htb hge ⟨oc, vs, t, hoc, hd, hv⟩
    have eL : (ps ++ #[rawInt pos.line, rawInt pos.col, .ref c']).toList = ps.toList ++ [rawInt pos.line, rawInt pos.col, .ref c'] := by simp
    have nF := I1.hok.fresh (Nat.le_refl _)
    have I2 := inv_frz (o := lamObj (X.env.qual ++ "<lambda>") params body scope (cloFrom X.env.cells scope.names []) ((X.mg "__name__").getD .none) c' ctv) (t' := tk) rfl I1
    have smM : Same M (upd M c' (CodeO c' (X.env.qual ++ "<lambda>"))) := same_upd nM
    refine h h'.objs.size c' ((X.mg "__name__").getD .none) ctv _ _ I2 (fun b o e n => ?_) (fun p hp => ?_) (fun b e => NdefX.upd_none (NdefX.upd_none (NdefX.upd_none e))) (I.hok.fresh (Nat.le_trans hge (Nat.le_of_lt hlt))) upd_same ?_ (.inl nC) (Nat.ne_of_gt hlt)
    · have e1 : (upd (upd H P (.tbl (ps ++ #[rawInt pos.line, rawInt pos.col, .ref c']))) c' (CodeO c' (X.env.qual ++ "<lambda>"))) b = some o := by
        rw [upd_ne (ne_of_none e nC), upd_ne n]
        exact e
      exact (upd_ne (ne_of_none e1 nF)).trans e1
    · by_cases hb : p.1 = P
      · rw [hu p hp hb, hb]
        have e1 : (upd (upd H P (.tbl (ps ++ #[rawInt pos.line, rawInt pos.col, .ref c']))) c' (CodeO c' (X.env.qual ++ "<lambda>"))) P = some (.tbl (ps ++ #[rawInt pos.line, rawInt pos.col, .ref c'])) := by
          rw [upd_ne (ne_of_none hP nC), upd_same]
        refine ⟨_, (upd_ne (ne_of_none e1 nF)).trans e1, by rw [eL]; exact PySem.TriplesOk_snoc _ _ _ _ ht, fun p' cv hcv => ?_⟩
        rw [eL] at hcv
        rcases among_app _ ht hcv with z | z
        · obtain ⟨c0, e1, e2⟩ := ha p' cv z
          exact ⟨c0, e1, smM _ _ e2⟩
        · exact ⟨c', z, upd_same⟩
      · refine (hT p hp).ext smM fun ps' a1 => ?_
        have e1 : (upd (upd H P (.tbl (ps ++ #[rawInt pos.line, rawInt pos.col, .ref c']))) c' (CodeO c' (X.env.qual ++ "<lambda>"))) p.1 = some (.tbl ps') := by
          rw [upd_ne (ne_of_none a1 nC), upd_ne hb]; exact a1
        exact (upd_ne (ne_of_none e1 nF)).trans e1
    · exact (upd_ne (Nat.ne_of_lt hlt)).trans upd_same
  | some cv =>
    obtain ⟨c', e, hco⟩ := ha pos cv hc
    subst e
    refine PySem.W.kla_makeFunctionHit (mg := X.mg) (c := c) (P := P) (ps := ps) (closure_ok hfree) I.ok.glob (I.mod.glob.keeps I.bk) hcode (TB.code.keeps I.bk) hP' ht hc bP fun ctv h' tk hx hsz => ?_
    have I1 : Inv X pins σ H { s with heap := h', toks := tk } := I.kept hx
    have nF : H h'.objs.size = none := I1.hok.fresh (Nat.le_refl _)
    have I2 := inv_frz (o := lamObj (X.env.qual ++ "<lambda>") params body scope (cloFrom X.env.cells scope.names []) ((X.mg "__name__").getD .none) c' ctv) (t' := tk) rfl I1
    have hcoH := sM _ _ hco
    have em : upd M c' (CodeO c' (X.env.qual ++ "<lambda>")) = M := by
      funext b
      by_cases z : b = c'
      · rw [z, upd_same]; exact hco.symm
      · rw [upd_ne z]
    refine h h'.objs.size c' ((X.mg "__name__").getD .none) ctv _ _ I2 (fun b o e n => ?_) (fun p hp => ?_) (fun b e => NdefX.upd_none e) nF upd_same ?_ (.inr hco) (fun z => by rw [z, hcoH] at nF; cases nF)
    · exact (upd_ne (ne_of_none e nF)).trans e
    · rw [em]
      exact (hT p hp).ext (Same.refl _) fun ps' e => (upd_ne (ne_of_none e nF)).trans e
    · exact (upd_ne (ne_of_none hcoH nF)).trans hcoH
end
end G
namespace G
open PySem PySem.Spec PyProof.Rows L2 LamX
variable [Tb]
/-! ### lambdas called -/
structure LamOk (P : Program) (w : World) (K : PySem.W.Frag) (mg : Str → Option Value) (base : Heap) (k : Nat) (L : Lam) (n : Nat) (sp : Sp) : Prop where
  run : ∀ (A : Around) (outer : List Env) (s : Shared) (H : Hp) (f c' : Addr) (pm ctv : Value) (clo : List (Str × Addr)) (us : List Value) (vs vsC : List V) (Q : VK), Room k A → Env0 P w K mg base A outer s H →
    s.heap.get? f = some (lamObj L.qual L.params L.body L.scope clo pm c' ctv) → s.heap.CodeRec (.ref c') L.qual → NdefX.CellsAt clo L.caps (vsC.map some) s.heap H → Vals vs us → vs.length = n →
    sp (vs ++ vsC) H Q (fun _ _ _ => False) → codeAny (model P w) A (.call (.ref f) ⟨us, []⟩) (CR (L2.CX P w) outer P w H s Q fun _ _ _ => False) s
/-- where a lambda's body runs -/
def cfgLam (P : Program) (w : World) (K : PySem.W.Frag) (mg : Str → Option Value) (base : Heap) (sc : Scope) (N : List Str) (k : Nat) (exA : Nat → Option Addr) : Cfg :=
  { P := P, w := w, K := K, mg := mg, base := base, N := N, sc := sc, st := fun _ => false, k := k, exA := exA, pr := [] }
theorem startF_eq {N : List Str} {vs vsC : List V} : NdefX.startF N vs (vsC.map some) = L2.start N (vs ++ vsC) := by
  unfold NdefX.startF L2.start
  rw [List.map_append, List.append_assoc]
  congr 3
  simp
  omega
theorem lam_ok {P : Program} {w : World} {K : PySem.W.Frag} {mg : Str → Option Value} {base : Heap} {L : Lam} {N ps : List Str} {k : Nat} {Φ : Fn} {shs : Nat → Nat → Shape} {exA : Nat → Option Addr} {i : Nat} {e : E} {Φ' : Fn} {C0 : Cfg}
    (hK : C0.K = K) (hE : C0.exA = exA) (S : NdefX.NScope N ps L.caps L.scope) (hbind : ∀ (clo : List (Str × Addr)) (pm cv ctv : Value) (us : List Value), us.length = ps.length → bindArgs (PySem.W.kla_fn "<lambda>" L.qual L.params L.body L.scope clo pm cv ctv) ⟨us, []⟩ = pure (ps.zip us))
    (hb : SndE (cfgLam P w K mg base L.scope N k exA) W0 L.body (evE Φ shs e)) (hΦ : ∀ ss, Φ' i ss = runDf Φ shs ⟨N.length, [], [.ret e]⟩ ss) :
    LamOk P w K mg base (k + 2) L ps.length (spOf C0 Φ' i (ps.length + L.caps.length)) := by
  refine ⟨fun A outer s H f c' pm ctv clo us vs vsC Q hr e0 ho hcr hC r hl hsp => ?_⟩
  have lim : s.heap.NoLimit := e0.mod.nolimit.keeps fun b o e => (e0.bs b o e).1
  refine PySem.W.kla_callFunE hr.depth ho rfl S.co S.gen rfl hcr ?_
  rw [hbind clo pm (.ref c') ctv us (by rw [← r.length]; exact hl)]
  let F : NdefX.NF := ⟨"<lambda>", L.qual, L.params, [], L.scope, clo, c'⟩
  refine wpAny_pure (wpAny_newFunctionEnv S.nocell (fun ⟨n, _⟩ hy => S.par n (List.of_mem_zip hy).1) (fun h₁ hns hsb => ⟨lim.fresh _ hsb, ?_⟩) S.kind)
  show codeAny _ _ (.expr L.body (NdefX.envF F f s.heap.objs.size)) _ _
  have kp : ∀ b o, s.heap.get? b = some o → h₁.get? b = some o := fun b o e => hsb.extBut b o (Nat.ne_of_lt (Heap.lt_size e)) (Heap.get?_push_of_some _ e)
  have I : Inv (NdefX.ncx (L2.CX P w) P w K mg base N F f A outer s H (fun _ _ _ => False)) [] (NdefX.startF N vs (vsC.map some)) H { s with heap := h₁, toks := s.toks + (ps.zip us).length } := NdefX.inv_startN (F := F) S hr.hd e0 hl r hC hns kp
  have hX : AtE (cfgLam P w K mg base L.scope N k exA) W0 (NdefX.ncx (L2.CX P w) P w K mg base N F f A outer s H (fun _ _ _ => False)) :=
    ⟨rfl, rfl, rfl, rfl, rfl, rfl, rfl, rfl, hr.deeper _, S.nd, L2.takes0, (fun x hx => nomatch hx), (fun q h => nomatch h)⟩
  obtain ⟨hlen, M, ss, st0, hd⟩ := hsp
  rw [hK] at st0
  have hsl : ss.length = (vs ++ vsC).length := by simpa using st0.len
  have hNl : ss.length ≤ N.length := by
    have q := congrArg List.length S.pre
    rw [List.length_take, List.length_append] at q
    omega
  have te : tE (cfgLam P w K mg base L.scope N k exA) W0 L.body (NdefX.startF N vs (vsC.map some)) H Q := by
    rw [startF_eq]
    refine hb M H (L2.start N (vs ++ vsC)) (startNv N.length ss) Q (start_st hNl st0) ?_
    rw [hΦ] at hd
    unfold runDf at hd
    split at hd
    · rename_i lk
      rw [evB, evS] at hd
      cases e1 : evE Φ shs e (startNv N.length ss) with
      | stuck => rw [e1] at hd; exact hd.elim
      | exc c as nv' =>
        rw [e1] at hd
        simp only [Rs.bind, endDf] at hd
        intro cls d M' H' s1 st1 ex
        cases ho : outsOf [] ss nv' with
        | none => rw [ho] at hd; exact hd.elim
        | some outs =>
          rw [ho] at hd
          obtain ⟨h1, h2⟩ := outs_st (C := cfgLam P w K mg base L.scope N k exA) st0 lk (Pk.refl _ _) s1.mm st1 ho
          refine hd cls d M' H' ⟨s1.mm, fun a o h n => s1.keep a o h fun z => n ((start_own hsl).mp z), fun a z => ?_, s1.dom, fun a o h => ?_⟩ (hK ▸ h1) ?_
          · rcases s1.own a (h2 a z) with z | z
            · exact .inl ((start_own hsl).mp z)
            · exact .inr z
          · rcases s1.mnew a o h with z | z | z
            · exact .inl z
            · exact .inr (.inl ((start_own hsl).mp z))
            · exact .inr (.inr z)
          · obtain ⟨a, z1, z2⟩ := ex
            exact ⟨a, by rw [hE]; exact z1, z2⟩
      | ok r nv' =>
        rw [e1] at hd
        simp only [Rs.bind, endDf] at hd
        intro v M' H' s1 st1 rr
        cases ho : outsOf [] ss nv' with
        | none => rw [ho] at hd; exact hd.elim
        | some outs =>
          rw [ho] at hd
          obtain ⟨h1, h2⟩ := outs_st (C := cfgLam P w K mg base L.scope N k exA) st0 lk (Pk.refl _ _) s1.mm st1 ho
          refine hd v M' H' ⟨s1.mm, fun a o h n => s1.keep a o h fun z => n ((start_own hsl).mp z), fun a z => ?_, s1.dom, fun a o h => ?_⟩ (hK ▸ h1) ?_
          · rcases s1.own a (z.elim (fun z => .inl (h2 a z)) .inr) with z | z
            · exact .inl ((start_own hsl).mp z)
            · exact .inr z
          · rcases s1.mnew a o h with z | z | z
            · exact .inl z
            · exact .inr (.inl ((start_own hsl).mp z))
            · exact .inr (.inr z)
          · rw [hK]
            cases r with
            | val dd => exact rr
            | own ds =>
              obtain ⟨a, ws, e1, e2, e3, e4, e5⟩ := rr
              exact ⟨a, ws, e1, e2, e3, fun z => e4 (h2 a z), e5⟩
    · exact hd.elim
  refine PySem.W.kla_codeExpr (wpAny_mono (te.un _ hX [] _ I) (fun v s' hq => ?_) fun e s' hq => hq)
  obtain ⟨w', H', J', rv, q⟩ := hq
  exact ⟨w', H', J'.os, J'.bare, J'.base, J'.hok, rv, q⟩
end G
namespace G
open PySem PySem.Spec PyProof.Rows L2 LamX
variable [Tb]
open Classical in
/-- what was hidden is there again -/
noncomputable def joinH (S : Addr → Prop) (M H' : Hp) : Hp := fun a => if S a then M a else H' a
section
variable {S : Addr → Prop} {M H H' : Hp} {a : Addr}
theorem join_in (s : S a) : joinH S M H' a = M a := if_pos s
theorem join_out (s : ¬ S a) : joinH S M H' a = H' a := if_neg s
end
section
variable {C : Cfg} {W : WX} {M H : Hp} {σ : L2.St} {nv : Nv} {Φ : Fn} {shs : Nat → Nat → Shape}
/-- what is known of the lambdas: how many arguments they take -/
structure LtOk (C : Cfg) (Φ : Fn) (lt : Nat → Option Nat) : Prop where
  at_ : ∀ k n, lt k = some n → ∃ L, Tb.lam k = some L ∧ LamOk C.P C.w C.K C.mg C.base C.k L n (spOf C Φ k (n + L.caps.length))
theorem LtOk.blk {lt : Nat → Option Nat} (F : LtOk C Φ lt) (s : Scope) : LtOk (C.blk s) Φ lt := ⟨F.at_⟩
theorem LtOk.hold {lt : Nat → Option Nat} (F : LtOk C Φ lt) (i : Nat) : LtOk (C.hold i) Φ lt := ⟨F.at_⟩
theorem inls_reps {K : PySem.W.Frag} {M : Hp} : ∀ {os : List (D ⊕ Nat)} {ds : List D} {vs : List V}, inls os = some ds → OpdsR K M σ os vs → Reps K M ds vs
  | [], ds, vs, e, h => by
    cases e
    have h : vs = [] := h
    subst h
    simp [Reps]
  | .inl d :: os, ds, vs, e, h => by
    simp only [inls] at e
    cases q : inls os with
    | none => rw [q] at e; cases e
    | some ds' =>
      rw [q] at e
      cases e
      obtain ⟨v, vs', rfl, h1, h2⟩ := h
      simp only [Reps]
      exact ⟨v, vs', rfl, h1, inls_reps q h2⟩
  | .inr i :: os, ds, vs, e, h => by cases e
/-- the slots of data alone -/
theorem vals_st {K : PySem.W.Frag} {ds : List D} {vs : List V} (e : Same M H) (t : ∀ p ∈ Tb.tabs, M p.1 = none ∧ TabM M H p.1 p.2) (r : Reps K M ds vs) : StR K M H (vs.map some) ((ds.map Sl.val).map some) := by
  refine ⟨e, by simp [r.length], fun i s h => ?_, fun i j f g xs ys v h => ?_, t⟩
  · rw [some_get, List.getElem?_map] at h
    cases q : ds[i]? with
    | none => rw [q] at h; cases h
    | some d =>
      rw [q] at h
      cases h
      obtain ⟨v, h1, h2⟩ := r.get q
      exact ⟨v, some_get.mpr h1, h2⟩
  · rw [some_get, List.getElem?_map] at h
    cases q : ds[i]? with
    | none => rw [q] at h; cases h
    | some d => rw [q] at h; cases h
theorem vals_own {ds : List D} {vs : List V} {a : Addr} (h : Own (vs.map some) ((ds.map Sl.val).map some) a) : TbA a := by
  rcases h with ⟨i, f, xs, h, _⟩ | h
  · rw [some_get, List.getElem?_map] at h
    cases q : ds[i]? with
    | none => rw [q] at h; cases h
    | some d => rw [q] at h; cases h
  · exact h
/-- a lambda that a slot holds, called -/
theorem lam_call {lt : Nat → Option Nat} {X : Cx} {pins : List (Addr × Obj)} {s : Shared} {k n : Nat} {cs ds : List D} {f : Addr} {us : List Value} {vs : List V} {Q : VK} (Lt : LtOk C Φ lt) (hX : AtE C W X) (hn : lt k = some n) (I : Inv X pins σ H s)
    (st : StR C.K M H σ nv) (hF : FnR C.K M k cs (.ref f)) (r : Vals vs us) (hl : vs.length = n) (hv : Reps C.K M ds vs) (hd : DoneE C W M H σ nv (cappOn Φ k (ds ++ cs) nv) Q) : wpAny (model X.prog X.w) X.A (call (.ref f) us []) (EP X pins σ Q) X.xe s := by
  obtain ⟨L, f', c', pm, ctv, clo, vsC, hL, ef, hf, hc', hclo, hrep⟩ := hF
  cases ef
  obtain ⟨L', hL', LO⟩ := Lt.at_ k n hn
  rw [hL] at hL'
  cases hL'
  obtain ⟨c1, c2, c3, c4, c5⟩ := hclo
  -- the captured cells
  have cellAt : ∀ y c, clo.lookup y = some c → ∃ ob u, M c = some (.frz ob (.ext fun _ => True)) ∧ ob.data = .cell (some u) := fun y c e => by
    obtain ⟨j, hj⟩ := List.mem_iff_getElem?.mp (c3 y c e)
    have hjl : j < vsC.length := by rw [← c1]; exact (List.getElem?_eq_some_iff.mp hj).1
    obtain ⟨c0, ob, u, e1, e2, e3, _⟩ := c5 j y _ hj (List.getElem?_eq_getElem hjl)
    rw [e] at e1
    cases e1
    exact ⟨ob, u, e2, e3⟩
  let S : Addr → Prop := fun c => ∃ y, clo.lookup y = some c
  have pM : PinS S M := fun c ⟨y, e⟩ => by
    obtain ⟨ob, u, e2, _⟩ := cellAt y c e
    exact ⟨ob, e2⟩
  have pH : PinS S H := pM.mono st.ext
  have cutn : ∀ b, H b = none → cutH S H b = none := fun b e => by
    by_cases z : S b
    · exact cut_in z
    · rw [cut_out z]; exact e
  have notS : ∀ b, H b = none → ¬ S b := fun b e z => by
    obtain ⟨ob, e2⟩ := pH b z
    rw [e] at e2
    cases e2
  have e0 := I.env0
  have e1 : Env0 X.prog X.w X.K X.mg X.base X.A X.stack s (cutH S H) := ⟨e0.frames, e0.mod, fun b o e => ⟨(e0.bs b o e).1, cutn b (e0.bs b o e).2⟩, e0.bsz, e0.funs, fun b hb => cutn b (e0.frf b hb), cut_hok pH e0.hok, e0.bare⟩
  have hC : NdefX.CellsAt clo L.caps (vsC.map some) s.heap (cutH S H) := by
    refine ⟨by rw [List.length_map]; exact c1.symm, fun y c e => ⟨cut_in ⟨y, e⟩, ?_⟩, c4, fun i y e => ?_⟩
    · obtain ⟨ob, u, e2, e3⟩ := cellAt y c e
      exact ⟨some u, ob, (I.hok c _ (st.ext _ _ e2)).1, e3⟩
    · have hil : i < vsC.length := by rw [← c1]; exact (List.getElem?_eq_some_iff.mp e).1
      obtain ⟨c, ob, u, e1, e2, e3, e4⟩ := c5 i y _ e (List.getElem?_eq_getElem hil)
      refine ⟨c, e1, fun v hv => ?_⟩
      rw [some_get, List.getElem?_eq_getElem hil] at hv
      cases hv
      exact ⟨u, e4, ob, (I.hok c _ (st.ext _ _ e2)).1, e3⟩
  have hcr : s.heap.CodeRec (.ref c') L.qual := NdefX.codeO_at I.hok (st.ext _ _ hc')
  have ho : s.heap.get? f = some (lamObj L.qual L.params L.body L.scope clo pm c' ctv) := (I.hok f _ (st.ext _ _ hf)).1
  have LO' : LamOk X.prog X.w X.K X.mg X.base C.k L n (spOf C Φ k (n + L.caps.length)) := by
    rw [hX.prog, hX.w, hX.K, hX.mg, hX.base]; exact LO
  let Q' : VK := fun v H' => (∀ c, S c → H' c = none) → Q v (joinH S H H')
  have hRep : Reps C.K (cutH S M) (ds ++ cs) (vs ++ vsC) := (hv.append hrep).cut pM
  have cutSame : Same (cutH S M) (cutH S H) := fun b o e => by
    obtain ⟨z, e⟩ := cut_some e
    rw [cut_out z]
    exact st.ext _ _ e
  have hsp : spOf C Φ k (n + L.caps.length) (vs ++ vsC) (cutH S H) Q' (fun _ _ _ => False) := by
    refine ⟨by rw [List.length_append, hl, c1], cutH S M, (ds ++ cs).map Sl.val, vals_st cutSame (fun p hp => ⟨?_, cut_tab pM pH (st.tb p hp).2⟩) hRep, ?_⟩
    · cases q : cutH S M p.1 with
      | none => rfl
      | some o =>
        have := (cut_some q).2
        rw [(st.tb p hp).1] at this
        cases this
    · unfold cappOn at hd
      cases e : Φ k ((ds ++ cs).map Sl.val) with
      | stuck => rw [e] at hd; exact hd.elim
      | exc c as outs => rw [e] at hd; exact hd.elim
      | ok rr outs =>
        rw [e] at hd
        intro v M' H' s' st' r' hn'
        have sM : ∀ b o, M' b = some o → ¬ S b := fun b o e z => by
          have := st'.ext _ _ e
          rw [hn' b z] at this
          cases this
        have mM : Same M (joinH S M M') := fun b o e => by
          by_cases z : S b
          · rw [join_in z]; exact e
          · rw [join_out z]; exact s'.mm _ _ (by rw [cut_out z]; exact e)
        have mM' : Same M' (joinH S M M') := fun b o e => by rw [join_out (sM b o e)]; exact e
        have mH' : ∀ b o, H' b = some o → joinH S H H' b = some o := fun b o e => by
          rw [join_out]
          · exact e
          · intro z; rw [hn' b z] at e; cases e
        refine hd v (joinH S M M') (joinH S H H') ⟨mM, fun b o e no => ?_, fun b hb => ?_, fun b e => ?_, fun b o e => ?_⟩ ⟨fun b o e => ?_, st.len, fun i t h => ?_, st.apart, fun p hp => ?_⟩ ?_
        · by_cases z : S b
          · rw [join_in z]; exact e
          · rw [join_out z]
            exact s'.keep b o (by rw [cut_out z]; exact e) fun y => no (.inr (vals_own y))
        · rcases hb with hb | hb
          · exact .inl hb
          · rcases s'.own b (.inr hb) with y | y
            · exact .inl (.inr (vals_own y))
            · cases rr with
              | val d => exact (show False from hb).elim
              | own xs =>
                obtain ⟨a, ws, rfl, h1, _⟩ := r'
                have hb : V.ref a = V.ref b := hb
                cases hb
                have z : ¬ S b := fun z => by rw [hn' b z] at h1; cases h1
                rw [cut_out z] at y
                exact .inr y
        · by_cases z : S b
          · rw [join_in z] at e; exact e
          · rw [join_out z] at e
            have := s'.dom b e
            rw [cut_out z] at this
            exact this
        · by_cases z : S b
          · rw [join_in z] at e; exact .inl e
          · rw [join_out z] at e
            rcases s'.mnew b o e with y | y | y
            · rw [cut_out z] at y; exact .inl y
            · exact .inr (.inl (.inr (vals_own y)))
            · rw [cut_out z] at y; exact .inr (.inr y)
        · by_cases z : S b
          · rw [join_in z] at e ⊢; exact st.ext _ _ e
          · rw [join_out z] at e ⊢; exact st'.ext _ _ e
        · obtain ⟨w, h1, h2⟩ := st.get i t h
          refine ⟨w, h1, ?_⟩
          cases t with
          | val d => exact Rep.mono mM h2
          | fn m es => exact FnR.mono mM h2
          | lv g es =>
            obtain ⟨a, o, rfl, h3, h4, h5⟩ := h2
            have z : ¬ S a := fun z => by
              obtain ⟨ob, e2⟩ := pM a z
              rw [h3] at e2
              cases e2
            have no : ¬ Own ((vs ++ vsC).map some) (((ds ++ cs).map Sl.val).map some) a := fun y => st.notTab h4 (fun _ => h5.ntbl) (vals_own y)
            obtain ⟨k1, k2, _⟩ := kept_at s' (a := a) (o := o) (by rw [cut_out z]; exact h4) (by rw [cut_out z]; exact h3) no
            exact ⟨a, o, rfl, by rw [join_out z]; exact k2, by rw [join_out z]; exact k1, LoR.mono mM h5⟩
        · obtain ⟨t1, t2⟩ := st'.tb p hp
          refine ⟨?_, t2.ext mM' fun _ h => mH' _ _ h⟩
          have z : ¬ S p.1 := fun z => by
            obtain ⟨ob, e2⟩ := pM _ z
            rw [(st.tb p hp).1] at e2
            cases e2
          rw [join_out z]
          exact t1
        · cases rr with
          | val d => exact Rep.mono mM' r'
          | own xs =>
            obtain ⟨a, ws, rfl, h1, h2, h3, h4⟩ := r'
            have z : ¬ S a := fun z => by rw [hn' a z] at h1; cases h1
            refine ⟨a, ws, rfl, mH' _ _ h1, by rw [join_out z]; exact h2, fun y => ?_, Reps.mono mM' h4⟩
            rcases s'.own a (.inr rfl) with x | x
            · obtain ⟨p, hp, e⟩ := vals_own x
              exact h3 (.inr ⟨p, hp, e⟩)
            · obtain ⟨_, o, h5⟩ := st.own_at y
              rw [cut_out z, h5] at x
              cases x
  refine wpAny_call (codeAny_mono (LO'.run X.A X.stack s (cutH S H) f c' pm ctv clo us vs vsC Q' (hX.room.mono (Nat.le_succ _)) e1 ho hcr hC r hl hsp) fun rs s' hq => ?_)
  cases rs with
  | error e => exact (cx_no hq).elim
  | ok fl =>
    cases fl with
    | next => exact False.elim hq
    | brk => exact False.elim hq
    | cont => exact False.elim hq
    | ret u =>
      obtain ⟨v, H', os, bare, un, hok, rv, q⟩ := hq
      have obAt : ∀ c, S c → ∃ ob, H c = some (.frz ob (.ext fun _ => True)) ∧ s.heap.get? c = some ob := fun c z => by
        obtain ⟨ob, e2⟩ := pH c z
        exact ⟨ob, e2, (I.hok c _ e2).1⟩
      have hn' : ∀ c, S c → H' c = none := fun c z => by
        obtain ⟨ob, _, e2⟩ := obAt c z
        exact un.free c ob e2 (cut_in z) (by simp)
      have nfr : ∀ c, S c → c ∉ frs X.stack := fun c z hb => by
        obtain ⟨ob, e2, _⟩ := obAt c z
        rw [e0.frf c hb] at e2
        cases e2
      have jH : ∀ b o, H' b = some o → joinH S H H' b = some o := fun b o e => by
        rw [join_out]
        · exact e
        · intro z; rw [hn' b z] at e; cases e
      refine I.after ⟨v, joinH S H H', os, bare, ⟨fun b o e z hb hx => un.keep b o e (cutn b z) hb hx, fun b o e z hb hx => un.slot b o e (cutn b z) hb hx, fun b o e z hx => ?_, fun b o e hx => un.there b o e hx, fun b xs e => ?_, fun b o u e => ?_, fun b ps e => ?_⟩, fun b o e => ?_, rv, q hn'⟩
      · rw [join_out (notS b z)]
        exact un.free b o e (cutn b z) hx
      · exact jH _ _ (un.tups b xs (cut_keep pH e fun ob z => nomatch z))
      · by_cases z : S b
        · rw [join_in z]; exact e
        · exact jH _ _ (un.frzs b o u (by rw [cut_out z]; exact e))
      · obtain ⟨more, e2⟩ := un.tbls b ps (cut_keep pH e fun ob z => nomatch z)
        exact ⟨more, jH _ _ e2⟩
      · by_cases z : S b
        · rw [join_in z] at e
          obtain ⟨ob, e2, e3⟩ := obAt b z
          rw [e] at e2
          cases e2
          have e4 := un.keep b ob e3 (cut_in z) (nfr b z) (by simp)
          exact ⟨e4, trivial, ⟨ob, e4⟩, fun _ _ _ _ => trivial⟩
        · rw [join_out z] at e
          exact (hok b o e).stay (fun _ _ _ e => e) (fun b e => jH _ _ e) (fun b xs e => jH _ _ e)
/-- a(e, ..), a a slot that holds a lambda -/
theorem snd_capp {lt : Nat → Option Nat} {i n : Nat} {ks : List Nat} {a : Str} {x : Expr} {xs : List Expr} {es : List E} {p pos : Pos} (Lt : LtOk C Φ lt) (hN : okName C.N C.sc i a = true) (hk : ∀ k ∈ ks, lt k = some (x :: xs).length) (ns : noStars (x :: xs) = true) (hel : es.length = (x :: xs).length)
    (h : SndA C W (x :: xs) (evOs Φ shs es)) : SndE C W (.Call (.Name a p) (x :: xs) [] pos) (evE Φ shs (.capp i ks es)) := by
  intro M H σ nv Q st hd
  refine ⟨fun X hX pins s I => ?_⟩
  rw [evE] at hd
  split at hd
  · rename_i k cs e0
    split at hd
    · rename_i hkk
      obtain ⟨v, ev, hF⟩ := st.get i _ e0
      have hF : FnR C.K M k cs v := hF
      obtain ⟨f, rfl⟩ : ∃ f, v = .ref f := by
        obtain ⟨L, f, c', pm, ctv, clo, vsC, hL, ef, _⟩ := hF
        exact ⟨f, ef⟩
      have fnAt : ∀ {M1 H1 : Hp} {s1 : Shared}, Inv X pins σ H1 s1 → Same M M1 → Same M1 H1 → PySem.W.FnAt f s1.heap := fun {M1 H1 s1} I1 m1 m2 => by
        obtain ⟨L, f', c', pm, ctv, clo, vsC, hL, ef, hf, _⟩ := hF
        cases ef
        exact ⟨_, _, _, _, (I1.hok f _ (m2 _ _ (m1 _ _ hf))).1⟩
      obtain ⟨n1, n2⟩ := noStars_cons ns
      refine wpAny_Call_Name_kw (thn ((pe_name hN X hX).run pins s σ H (fun v H1 => v = .ref f ∧ H1 = H) I ⟨.ref f, ev, rfl, rfl⟩) fun u s1 ⟨v, H1, I1, r1, q1⟩ => ?_)
      obtain ⟨rfl, rfl⟩ := q1
      obtain rfl : u = Value.ref f := r1
      refine PySem.W.callWith_F (fnAt I1 (Same.refl _) st.ext) ?_ (star_cons n1 _ _) (plain_back n2)
      have go : tA C W (x :: xs) σ H1 fun vs H2 => vs.length = (x :: xs).length ∧ ∃ M1 nv1 ds, StR C.K M1 H2 σ nv1 ∧ Reps C.K M1 ds vs ∧ Same M M1 ∧ DoneE C W M1 H2 σ nv1 (cappOn Φ k (ds ++ cs) nv1) Q := by
        refine h M H1 σ nv _ st ?_
        cases e1 : evOs Φ shs es nv with
        | stuck => rw [e1] at hd; exact hd.elim
        | exc c as nv1 => rw [e1] at hd; exact hd
        | ok os nv1 =>
          rw [e1] at hd
          simp only [Rs.bind] at hd
          intro M2 H2 s2 st2 vs hv
          have hd := DoneE.later hd s2
          cases e2 : inls os with
          | none => rw [e2] at hd; exact hd.elim
          | some ds =>
            rw [e2] at hd
            refine ⟨?_, M2, nv1, ds, st2, inls_reps e2 hv, s2.mm, hd⟩
            rw [← hv.length, evOs_len e1, hel]
      refine thn (go.un X hX pos pins s1 I1) fun us s2 ⟨vs, H2, I2, r, hl, M1, nv1, ds, st1, hv, mm, hd1⟩ => ⟨fnAt I2 mm st1.ext, ?_⟩
      exact lam_call Lt hX (hk k hkk) I2 st1 (hF.mono mm) r hl hv hd1
    · exact hd.elim
  · exact hd.elim
end
end G
namespace G
open PySem PySem.Spec PyProof.Rows L2 LamX
variable [Tb]
section
variable {C : Cfg} {W : WX} {M H : Hp} {σ : L2.St} {nv : Nv} {Φ : Fn} {shs : Nat → Nat → Shape} {K : PySem.W.Frag}
/-! ### arguments before a lambda -/
def SndK (C : Cfg) (W : WX) (xs : List Expr) (f : Nv → Rs (List (D ⊕ Nat))) : Prop := ∀ (X : Cx), AtE C W X → ∀ (zs : List Expr) M H σ nv (Q : List V → Hp → Prop), StR C.K M H σ nv →
  DoneX C W M H σ nv (f nv) (fun os nv' M' H' => ∀ vs, OpdsR C.K M' σ os vs → ∀ (pos : Pos) pins s, Inv X pins σ H' s → wpAny (model X.prog X.w) X.A (spliced (backTo pos (starEach zs X.env))) (AP X pins σ fun us H2 => Q (vs ++ us) H2) X.xe s) →
  ∀ (pos : Pos) pins s, Inv X pins σ H s → wpAny (model X.prog X.w) X.A (spliced (backTo pos (starEach (xs ++ zs) X.env))) (AP X pins σ Q) X.xe s
theorem sk_nil : SndK C W [] (evOs Φ shs []) := by
  intro X hX zs M H σ nv Q st hd pos pins s I
  rw [evOs] at hd
  exact hd M H (Step.refl _ _ _) st [] rfl pos pins s I
theorem sk_e {x : Expr} {xs : List Expr} {e : E} {es : List E} (ns : noStar x = true) (nb : isBrw e = false) (he : SndE C W x (evE Φ shs e)) (hs : SndK C W xs (evOs Φ shs es)) : SndK C W (x :: xs) (evOs Φ shs (e :: es)) := by
  intro X hX zs M H σ nv Q st hd pos pins s I
  rw [List.cons_append, star_cons ns]
  show wpAny _ _ (spliced ((false, eval x X.env) :: backTo pos (starEach (xs ++ zs) X.env))) _ _ s
  rw [evOs] at hd
  have e1 : argStep e nv (evE Φ shs e nv) (evOs Φ shs es) = (evE Φ shs e nv).bind fun r nv1 => (evOs Φ shs es nv1).bind fun os nv2 => .ok (.inl r.frz :: os) nv2 := by
    cases e <;> first | rfl | (cases nb)
  rw [e1] at hd
  have te : tE C W x σ H fun v H1 => ∀ (pos : Pos) pins s1, Inv X pins σ H1 s1 → wpAny (model X.prog X.w) X.A (spliced (backTo pos (starEach (xs ++ zs) X.env))) (AP X pins σ fun us H2 => Q (v :: us) H2) X.xe s1 := by
    refine SndE.then he st hd fun r nv1 v M1 H1 e2 st1 rp s1 hd1 => ?_
    refine hs X hX zs M1 H1 σ nv1 _ st1 ?_
    cases e3 : evOs Φ shs es nv1 with
    | stuck => rw [e3] at hd1; exact hd1.elim
    | exc c as nv2 => rw [e3] at hd1; exact hd1
    | ok os nv2 =>
      rw [e3] at hd1
      intro M2 H2 s2 st2 vs hv
      exact hd1 M2 H2 s2 st2 (v :: vs) ⟨v, vs, rfl, Rep.mono s2.mm rp, hv⟩
  refine Calls.spliced_cons (thn (te.un X hX pins s I) fun u s1 ⟨v, H1, I1, r1, q1⟩ => ?_)
  exact thn (q1 pos pins s1 I1) fun us s2 ⟨vs, H2, I2, r2, q2⟩ => ⟨v :: vs, H2, I2, .cons r1 r2, q2⟩
/-! ### slots in a row -/
def Sls (K : PySem.W.Frag) (M H : Hp) : List Sl → List V → Prop
  | [], vs => vs = []
  | s :: ss, vs => ∃ v vs', vs = v :: vs' ∧ SlR K M H s v ∧ (∀ f ds, s ≠ .lv f ds) ∧ Sls K M H ss vs'
theorem Sls.len : ∀ {ss : List Sl} {vs : List V}, Sls K M H ss vs → ss.length = vs.length
  | [], _, h => by have h : _ = [] := h; subst h; rfl
  | s :: ss, _, h => by
    obtain ⟨v, vs', rfl, _, _, h⟩ := h
    simp [h.len]
theorem Sls.get : ∀ {ss : List Sl} {vs : List V} {i : Nat} {s : Sl}, Sls K M H ss vs → ss[i]? = some s → ∃ v, vs[i]? = some v ∧ SlR K M H s v ∧ ∀ f ds, s ≠ .lv f ds
  | [], _, _, _, _, h => by simp at h
  | t :: ss, _, i, s, h, e => by
    obtain ⟨v, vs', rfl, h1, h2, h3⟩ := h
    cases i with
    | zero => cases e; exact ⟨v, rfl, h1, h2⟩
    | succ i => simpa using Sls.get h3 (by simpa using e)
theorem Sls.app : ∀ {ss ts : List Sl} {vs us : List V}, Sls K M H ss vs → Sls K M H ts us → Sls K M H (ss ++ ts) (vs ++ us)
  | [], _, _, _, h, h2 => by have h : _ = [] := h; subst h; exact h2
  | s :: ss, ts, _, us, h, h2 => by
    obtain ⟨v, vs', rfl, h1, h3, h4⟩ := h
    exact ⟨v, vs' ++ us, rfl, h1, h3, h4.app h2⟩
theorem sls_vals : ∀ {ds : List D} {vs : List V}, Reps K M ds vs → Sls K M H (ds.map Sl.val) vs
  | [], _, h => by simp only [Reps] at h; exact h
  | d :: ds, _, h => by
    simp only [Reps] at h
    obtain ⟨v, vs', rfl, h1, h2⟩ := h
    exact ⟨v, vs', rfl, h1, (fun _ _ z => nomatch z), sls_vals h2⟩
theorem sls_st {ss : List Sl} {vs : List V} (e : Same M H) (t : ∀ p ∈ Tb.tabs, M p.1 = none ∧ TabM M H p.1 p.2) (r : Sls K M H ss vs) : StR K M H (vs.map some) (ss.map some) := by
  refine ⟨e, by simp [r.len], fun i s h => ?_, fun i j f g xs ys v h => ?_, t⟩
  · obtain ⟨v, h1, h2, _⟩ := r.get (some_get.mp h)
    exact ⟨v, some_get.mpr h1, h2⟩
  · obtain ⟨v, _, _, h3⟩ := r.get (some_get.mp h)
    exact absurd rfl (h3 _ _)
theorem sls_own {ss : List Sl} {vs : List V} (r : Sls K M H ss vs) {a : Addr} (h : Own (vs.map some) (ss.map some) a) : TbA a := by
  rcases h with ⟨i, f, xs, h, _⟩ | h
  · obtain ⟨v, _, _, h3⟩ := r.get (some_get.mp h)
    exact absurd rfl (h3 _ _)
  · exact h
theorem caps_get : ∀ {is : List Nat} {ds : List D}, capsD nv is = some ds → StR K M H σ nv → ∃ vs : List V, Reps K M ds vs ∧ is.map (NdefX.slotAt σ) = vs.map some
  | [], ds, h, st => by
    cases h
    exact ⟨[], by simp [Reps], rfl⟩
  | i :: is, ds, h, st => by
    simp only [capsD] at h
    split at h
    · rename_i d q
      cases q2 : capsD nv is with
      | none => rw [q2] at h; cases h
      | some ds' =>
        rw [q2] at h
        cases h
        obtain ⟨vs, h1, h2⟩ := caps_get q2 st
        obtain ⟨v, e1, e2⟩ := st.get i _ q
        refine ⟨v :: vs, ?_, ?_⟩
        · simp only [Reps]
          exact ⟨v, vs, rfl, e2, h1⟩
        · rw [List.map_cons, List.map_cons, h2, NdefX.slotAt_of e1]
    · cases h
/-- the lambda's places in its maker -/
structure LamAt (C : Cfg) (L : Lam) (c P : Addr) (caps : List Nat) : Prop where
  cd : ∃ q, C.cd = some (.ref c, q) ∧ L.qual = q ++ "<lambda>"
  tb : TabB C.base C.mg c P
  mem : (P, L.qual) ∈ Tb.tabs
  uni : ∀ p ∈ Tb.tabs, p.1 = P → p.2 = L.qual
  dft : ∀ env, defaultsOf L.params env = ([], [])
  fr : ∀ y ∈ L.scope.names, y.2 = .free → y.1 ∈ L.caps
  frk : ∀ y ∈ L.caps, (y, NameKind.free) ∈ L.scope.names
  cel : ∀ y ∈ L.caps, C.sc.names.lookup y = some .cell ∧ C.st y = true
  at_ : caps.map (fun j => C.N[j]?) = L.caps.map some
end
section
variable {C : Cfg} {W : WX} {M H : Hp} {σ : L2.St} {nv : Nv} {Φ : Fn} {shs : Nat → Nat → Shape}
/-- the call itself, the lambda made -/
theorem call_lam {i k : Nat} {L : Lam} {c P : Addr} {caps : List Nat} {fi : FnI} {X : Cx} {pins : List (Addr × Obj)} {s : Shared} {us us2 : List Value} {vs vs2 : List V} {ds ds2 cs : List D} {f c' : Addr} {pm ctv : Value} {Q : VK}
    (FO : FnOk C.P C.w C.K C.mg C.base (L2.CX C.P C.w) C.k fi.f fi.fd fi.ps (spOf C Φ i fi.ps.length)) (hB : L2.Binds C.K fi.fd fi.ps []) (hL : Tb.lam k = some L) (LA : LamAt C L c P caps) (hX : AtE C W X) (I : Inv X pins σ H s) (st : StR C.K M H σ nv)
    (hf : M f = some (.frz (lamObj L.qual L.params L.body L.scope (cloFrom X.env.cells L.scope.names []) pm c' ctv) (.ext fun _ => True))) (hc' : M c' = some (CodeO c' L.qual)) (r : Vals vs us) (r2 : Vals vs2 us2) (hv : Reps C.K M ds vs) (hv2 : Reps C.K M ds2 vs2)
    (hn : vs.length + 1 + vs2.length = fi.ps.length) (hcs : capsD nv caps = some cs) (hd : DoneE C W M H σ nv (callLOn Φ i k (some ds) (some ds2) (some cs) nv) Q) : wpAny (model X.prog X.w) X.A (call (.ref fi.f) (us ++ .ref f :: us2) []) (EP X pins σ Q) X.xe s := by
  obtain ⟨vsC, hrep, hslot⟩ := caps_get hcs st
  have hfree : ∀ y ∈ L.scope.names, y.2 = .free → X.env.scope.names.lookup y.1 = some .cell ∨ X.env.scope.names.lookup y.1 = some .free := fun y hy e => .inl (by rw [hX.sc]; exact (LA.cel _ (LA.fr y hy e)).1)
  have cp : NdefX.Caps X (cloFrom X.env.cells L.scope.names []) L.caps caps := NdefX.Caps.made I.ok hfree LA.frk (by rw [hX.N]; exact LA.at_)
  have CA := NdefX.cells_of I cp
  rw [hslot] at CA
  let S : Addr → Prop := fun a => ∃ y, (cloFrom X.env.cells L.scope.names []).lookup y = some a
  have sn : ∀ a, S a → H a = none := fun a ⟨y, e⟩ => (CA.all y a e).1
  have sob : ∀ a, S a → ∃ ob, s.heap.get? a = some ob := fun a ⟨y, e⟩ => by
    obtain ⟨_, v, ob, h, _⟩ := CA.all y a e
    exact ⟨ob, h⟩
  have c3 : ∀ y a, (cloFrom X.env.cells L.scope.names []).lookup y = some a → y ∈ L.caps := fun y a e => by
    rcases cloFrom_mem (PySem.mem_of_lookup e) with hm | ⟨h1, _⟩
    · cases hm
    · exact LA.fr _ h1 rfl
  have big : ∀ a, S a → X.s_0.heap.objs.size ≤ a := fun a ⟨y, e⟩ => by
    have hy := c3 y a e
    obtain ⟨k1, k2⟩ := LA.cel y hy
    rcases (hX.fn y k2).2 with z | z
    · exact I.ok.cab y a z (cp.sub y a e)
    · rw [hX.sc, k1] at z; cases z
  have sb : ∀ a, S a → X.base.get? a = none := fun a z => by
    cases e : X.base.get? a with
    | none => rfl
    | some o => exact absurd (Nat.lt_of_lt_of_le (Heap.lt_size e) (Nat.le_trans I.ok.bsz (big a z))) (Nat.lt_irrefl _)
  have sf : ∀ a, S a → a ∉ frs X.stack := fun a z hb => by
    rcases List.mem_cons.mp (I.stkSub a hb) with e | e
    · obtain ⟨y, ey⟩ := z
      exact I.cne y a (cp.sub y a ey) e
    · obtain ⟨_, o, ho, _⟩ := I.ok.funs.mem e
      exact absurd (Nat.lt_of_lt_of_le (Heap.lt_size ho) (big a z)) (Nat.lt_irrefl _)
  have smM : ∀ a, S a → M a = none := fun a z => by
    cases e : M a with
    | none => rfl
    | some o => have := st.ext _ _ e; rw [sn a z] at this; cases this
  have mM : Same M (pinH S s.heap M) := pin_same smM
  have mH : Same H (pinH S s.heap H) := pin_same sn
  have ext3 : Same (pinH S s.heap M) (pinH S s.heap H) := fun a o e => by
    by_cases z : S a
    · obtain ⟨ob, e2⟩ := sob a z
      rw [pin_in z e2] at e ⊢
      exact e
    · rw [pin_out z] at e ⊢
      exact st.ext _ _ e
  have hclo : CloR (pinH S s.heap M) L (cloFrom X.env.cells L.scope.names []) vsC := by
    refine ⟨by have := CA.len; rw [List.length_map] at this; exact this.symm, LA.fr, c3, CA.inj, fun j y v h1 h2 => ?_⟩
    obtain ⟨a, e1, e2⟩ := CA.has j y h1
    obtain ⟨u, rv, ob, h3, h4⟩ := e2 v (some_get.mpr h2)
    exact ⟨a, ob, u, e1, pin_in ⟨y, e1⟩ h3, h4, rv⟩
  have hF : FnR C.K (pinH S s.heap M) k cs (.ref f) := ⟨L, f, c', pm, ctv, _, vsC, hL, rfl, mM _ _ hf, mM _ _ hc', hclo, Reps.mono mM hrep⟩
  have hS : Sls C.K (pinH S s.heap M) (pinH S s.heap H) (ds.map Sl.val ++ .fn k cs :: ds2.map Sl.val) (vs ++ .ref f :: vs2) :=
    (sls_vals (Reps.mono mM hv)).app ⟨_, _, rfl, hF, (fun _ _ z => nomatch z), sls_vals (Reps.mono mM hv2)⟩
  have tb3 : ∀ p ∈ Tb.tabs, (pinH S s.heap M) p.1 = none ∧ TabM (pinH S s.heap M) (pinH S s.heap H) p.1 p.2 := fun p hp => by
    obtain ⟨t1, t2⟩ := st.tb p hp
    have z : ¬ S p.1 := fun z => by
      obtain ⟨ps, h, _⟩ := t2
      rw [sn _ z] at h; cases h
    exact ⟨by rw [pin_out z]; exact t1, t2.ext mM fun _ h => mH _ _ h⟩
  have pM : PinS S (pinH S s.heap M) := pin_pins sob
  have pH : PinS S (pinH S s.heap H) := pin_pins sob
  have hlen : (us ++ Value.ref f :: us2).length = fi.ps.length := by
    rw [List.length_append, List.length_cons, ← r.length, ← r2.length]; omega
  have hb := hB s (us ++ .ref f :: us2) (by rw [← hX.K]; exact I.kIn) (by rw [List.append_nil]; exact hlen)
  rw [List.append_nil] at hb
  have hr : Vals (vs ++ .ref f :: vs2) (us ++ .ref f :: us2) := by
    clear hd hb hlen hS hv hn
    induction r with
    | nil => exact .cons rfl r2
    | cons a b ih => exact .cons a ih
  refine pin_call hX FO I sn sob sb sf hb hr ⟨by simp; omega, pinH S s.heap M, _, sls_st ext3 tb3 hS, ?_⟩
  unfold callLOn at hd
  dsimp only at hd
  cases e : Φ i (ds.map Sl.val ++ .fn k cs :: ds2.map Sl.val) with
  | stuck => rw [e] at hd; exact hd.elim
  | exc c as outs => rw [e] at hd; exact hd.elim
  | ok rr outs =>
    rw [e] at hd
    intro v M' H' s' st' r'
    have pM' : PinS S M' := pM.mono s'.mm
    have pH' : PinS S H' := pM'.mono st'.ext
    have cM : Same M (cutH S M') := fun a o e => by
      have z : ¬ S a := fun z => by rw [smM a z] at e; cases e
      rw [cut_out z]
      exact s'.mm _ _ (mM _ _ e)
    refine hd v (cutH S M') (cutH S H') ⟨cM, fun a o e no => ?_, fun a ha => ?_, fun a e => ?_, fun a o e => ?_⟩ ⟨fun a o e => ?_, st.len, fun j t h => ?_, st.apart, fun p hp => ?_⟩ ?_
    · have z : ¬ S a := fun z => by rw [sn a z] at e; cases e
      rw [cut_out z]
      exact s'.keep a o (mH _ _ e) fun y => no (.inr (sls_own hS y))
    · rcases ha with ha | ha
      · exact .inl ha
      · rcases s'.own a (.inr ha) with y | y
        · exact .inl (.inr (sls_own hS y))
        · right
          cases q : H a with
          | none => rfl
          | some o => rw [mH _ _ q] at y; cases y
    · by_cases z : S a
      · exact sn a z
      · rw [cut_out z] at e
        have := s'.dom a e
        rw [pin_out z] at this
        exact this
    · obtain ⟨z, e⟩ := cut_some e
      rcases s'.mnew a o e with y | y | y
      · rw [pin_out z] at y; exact .inl y
      · exact .inr (.inl (.inr (sls_own hS y)))
      · rw [pin_out z] at y; exact .inr (.inr y)
    · obtain ⟨z, e⟩ := cut_some e
      rw [cut_out z]
      exact st'.ext _ _ e
    · obtain ⟨w, h1, h2⟩ := st.get j t h
      refine ⟨w, h1, ?_⟩
      cases t with
      | val d => exact Rep.mono cM h2
      | fn m es => exact FnR.mono cM h2
      | lv g es =>
        obtain ⟨a, o, rfl, h3, h4, h5⟩ := h2
        have z : ¬ S a := fun z => by rw [sn a z] at h4; cases h4
        have no : ¬ Own ((vs ++ .ref f :: vs2).map some) ((ds.map Sl.val ++ .fn k cs :: ds2.map Sl.val).map some) a := fun y => st.notTab h4 (fun _ => h5.ntbl) (sls_own hS y)
        obtain ⟨k1, k2, _⟩ := kept_at s' (a := a) (o := o) (mH _ _ h4) (by rw [pin_out z]; exact h3) no
        exact ⟨a, o, rfl, by rw [cut_out z]; exact k2, by rw [cut_out z]; exact k1, LoR.mono cM h5⟩
    · obtain ⟨t1, t2⟩ := st'.tb p hp
      refine ⟨?_, cut_tab pM' pH' t2⟩
      cases q : cutH S M' p.1 with
      | none => rfl
      | some o => have := (cut_some q).2; rw [t1] at this; cases this
    · cases rr with
      | val d => exact Rep.cut pM' r'
      | own xs =>
        obtain ⟨a, ws, rfl, h1, h2, h3, h4⟩ := r'
        refine ⟨a, ws, rfl, cut_keep pH' h1 (fun ob z => nomatch z), ?_, fun y => ?_, Reps.cut pM' h4⟩
        · cases q : cutH S M' a with
          | none => rfl
          | some o => have := (cut_some q).2; rw [h2] at this; cases this
        · rcases s'.own a (.inr rfl) with x | x
          · exact h3 (.inr (sls_own hS x))
          · obtain ⟨_, o, h5⟩ := st.own_at y
            rw [mH _ _ h5] at x
            cases x
end
end G
namespace G
open PySem PySem.Spec PyProof.Rows L2 LamX
variable [Tb]
section
variable {C : Cfg} {W : WX} {M H : Hp} {σ : L2.St} {nv : Nv} {Φ : Fn} {shs : Nat → Nat → Shape}
theorem take_at {α : Type} {l : List α} {n : Nat} {x : α} (h : l[n]? = some x) : l = l.take n ++ x :: l.drop (n + 1) := by
  obtain ⟨hl, e⟩ := List.getElem?_eq_some_iff.mp h
  rw [← e, ← List.drop_eq_getElem_cons hl, List.take_append_drop]
theorem vals_mid {f : Addr} {vs2 : List V} : ∀ {vs : List V} {us : List Value}, Vals (vs ++ .ref f :: vs2) us → ∃ us1 us2', us = us1 ++ .ref f :: us2' ∧ Vals vs us1 ∧ Vals vs2 us2'
  | [], _, .cons a b => by
    cases a
    exact ⟨[], _, rfl, .nil, b⟩
  | v :: vs, _, .cons a b => by
    obtain ⟨us1, us2', rfl, r1, r2⟩ := vals_mid b
    exact ⟨_ :: us1, us2', rfl, .cons a r1, r2⟩
/-- f(.., lambda .., ..) -/
theorem snd_callL {ft : Nat → Option FnI} {T : ShT} (F : FtOk C Φ ft T) {i k n : Nat} {fi : FnI} {L : Lam} {c P : Addr} {caps : List Nat} {whole : List Expr} {es fs : List E} {p pos lp : Pos} (hf : ft i = some fi) (hg : isGl C.sc fi.name = true) (hdb : (fi.name == ("__debug__" : Str)) = false)
    (hB : L2.Binds C.K fi.fd fi.ps []) (hL : Tb.lam k = some L) (LA : LamAt C L c P caps) (hw : whole[n]? = some (.Lambda L.params L.body L.scope lp)) (ns : noStars whole = true) (hel : es.length = n) (hfl : fs.length = whole.length - (n + 1)) (hn : whole.length = fi.ps.length)
    (h : SndK C W (whole.take n) (evOs Φ shs es)) (h2 : SndA C W (whole.drop (n + 1)) (evOs Φ shs fs)) : SndE C W (.Call (.Name fi.name p) whole [] pos) (evE Φ shs (.callL i es k caps fs)) := by
  intro M H σ nv Q st hd
  refine ⟨fun X hX pins s I => ?_⟩
  obtain ⟨hm, hk, FO⟩ := F.at_ i fi hf
  have hwl : n < whole.length := (List.getElem?_eq_some_iff.mp hw).1
  rw [evE] at hd
  refine wpAny_Call_Name_kw (ld_glob I (gl_of hX hg) (by rw [hX.mg]; exact hm) ?_ hdb)
  have hfree : ∀ y ∈ L.scope.names, y.2 = .free → ∃ c, X.env.cells.lookup y.1 = some c := fun y hy e => I.ok.has _ (.inl (by
    show X.env.scope.names.lookup y.1 = some .cell
    rw [hX.sc]; exact (LA.cel _ (LA.fr y hy e)).1))
  obtain ⟨q, hcd, hq⟩ := LA.cd
  obtain ⟨hcode, hqual⟩ := hX.cd _ hcd
  -- the arguments
  have go : ∀ (pos : Pos) pins s, Inv X pins σ H s → wpAny (model X.prog X.w) X.A (spliced (backTo pos (starEach whole X.env))) (AP X pins σ fun us2 H3 => ∃ (vs vs2 : List V) (f c' : Addr) (pm ctv : Value) (M3 : Hp) (nv3 : Nv) (ds ds2 cs : List D), us2 = vs ++ .ref f :: vs2 ∧ StR C.K M3 H3 σ nv3 ∧
      M3 f = some (.frz (lamObj L.qual L.params L.body L.scope (cloFrom X.env.cells L.scope.names []) pm c' ctv) (.ext fun _ => True)) ∧ M3 c' = some (CodeO c' L.qual) ∧ Reps C.K M3 ds vs ∧ Reps C.K M3 ds2 vs2 ∧ vs.length = n ∧ vs2.length = whole.length - (n + 1) ∧ capsD nv3 caps = some cs ∧ DoneE C W M3 H3 σ nv3 (callLOn Φ i k (some ds) (some ds2) (some cs) nv3) Q) X.xe s := by
    have := h X hX (.Lambda L.params L.body L.scope lp :: whole.drop (n + 1)) M H σ nv (fun us2 H3 => ∃ (vs vs2 : List V) (f c' : Addr) (pm ctv : Value) (M3 : Hp) (nv3 : Nv) (ds ds2 cs : List D), us2 = vs ++ .ref f :: vs2 ∧ StR C.K M3 H3 σ nv3 ∧
      M3 f = some (.frz (lamObj L.qual L.params L.body L.scope (cloFrom X.env.cells L.scope.names []) pm c' ctv) (.ext fun _ => True)) ∧ M3 c' = some (CodeO c' L.qual) ∧ Reps C.K M3 ds vs ∧ Reps C.K M3 ds2 vs2 ∧ vs.length = n ∧ vs2.length = whole.length - (n + 1) ∧ capsD nv3 caps = some cs ∧ DoneE C W M3 H3 σ nv3 (callLOn Φ i k (some ds) (some ds2) (some cs) nv3) Q) st ?_
    · rw [← take_at hw] at this
      exact this
    · cases e1 : evOs Φ shs es nv with
      | stuck => rw [e1] at hd; exact hd.elim
      | exc cc as nv1 => rw [e1] at hd; exact hd
      | ok os nv1 =>
        rw [e1] at hd
        simp only [Rs.bind] at hd
        intro M1 H1 s1 st1 vs hv pos pins s I
        have hd := DoneE.later hd s1
        show wpAny _ _ (spliced ((false, eval (.Lambda L.params L.body L.scope lp) X.env) :: backTo pos (starEach (whole.drop (n + 1)) X.env))) _ _ s
        refine Calls.spliced_cons (lam_made (c := c) (P := P) (q := L.qual) I st1.ext (by rw [hX.base, hX.mg]; exact LA.tb) hcode (by rw [hqual]; exact hq.symm) LA.mem LA.uni (fun p hp => (st1.tb p hp).2) (LA.dft _) hfree fun f c' pm ctv H2 s2 I2 kp T2 dom hfn hfo hco hc0 nfc => ?_)
        -- what is known now
        have fM : M1 f = none := by
          cases e : M1 f with
          | none => rfl
          | some o => rw [st1.ext _ _ e] at hfn; cases hfn
        have mc : Same M1 (upd M1 c' (CodeO c' L.qual)) := fun b o e => by
          by_cases z : b = c'
          · subst z
            rcases hc0 with z | z
            · rw [st1.ext _ _ e] at z; cases z
            · rw [e] at z; cases z; exact upd_same
          · rw [upd_ne z]; exact e
        have fM2 : upd M1 c' (CodeO c' L.qual) f = none := by rw [upd_ne nfc]; exact fM
        have mf := same_upd (o := HO.frz (lamObj L.qual L.params L.body L.scope (cloFrom X.env.cells L.scope.names []) pm c' ctv) (.ext fun _ => True)) fM2
        have notP : ∀ b o, M1 b = some o → b ≠ P := fun b o e z => by
          obtain ⟨t1, _⟩ := st1.tb _ LA.mem
          rw [z, t1] at e
          cases e
        have own0 : ∀ a, Own σ nv1 a → upd (upd M1 c' (CodeO c' L.qual)) f (.frz (lamObj L.qual L.params L.body L.scope (cloFrom X.env.cells L.scope.names []) pm c' ctv) (.ext fun _ => True)) a = none := fun a ha => by
          obtain ⟨h1, o, h2⟩ := st1.own_at ha
          rw [upd_ne (fun z => by rw [z, hfn] at h2; cases h2), upd_ne (fun z => ?_)]
          · exact h1
          · rcases hc0 with y | y
            · rw [z, y] at h2; cases h2
            · rw [z, y] at h1; cases h1
        have st2 : StR C.K (upd (upd M1 c' (CodeO c' L.qual)) f (.frz (lamObj L.qual L.params L.body L.scope (cloFrom X.env.cells L.scope.names []) pm c' ctv) (.ext fun _ => True))) H2 σ nv1 := by
          refine ⟨fun b o e => ?_, st1.len, fun j t h => ?_, st1.apart, fun p hp => ⟨own0 _ (.inr ⟨p, hp, rfl⟩), (T2 p hp).ext mf fun _ h => h⟩⟩
          · by_cases z : b = f
            · rw [z, upd_same] at e; cases e; rw [z]; exact hfo
            · rw [upd_ne z] at e
              by_cases z2 : b = c'
              · rw [z2, upd_same] at e; cases e; rw [z2]; exact hco
              · rw [upd_ne z2] at e
                exact kp b o (st1.ext _ _ e) (notP b o e)
          · obtain ⟨w, h1, h2⟩ := st1.get j t h
            refine ⟨w, h1, ?_⟩
            cases t with
            | val d => exact Rep.mono (mc.trans mf) h2
            | fn m es => exact FnR.mono (mc.trans mf) h2
            | lv g es =>
              obtain ⟨a, o, rfl, h3, h4, h5⟩ := h2
              refine ⟨a, o, rfl, own0 a (.inl ⟨j, g, es, h, h1⟩), kp a o h4 fun z => ?_, LoR.mono (mc.trans mf) h5⟩
              exact st1.notTab h4 (fun _ => h5.ntbl) ⟨_, LA.mem, z.symm⟩
        have sp : Step M1 H1 (Own σ nv1) (upd (upd M1 c' (CodeO c' L.qual)) f (.frz (lamObj L.qual L.params L.body L.scope (cloFrom X.env.cells L.scope.names []) pm c' ctv) (.ext fun _ => True))) H2 (Own σ nv1) := by
          refine ⟨mc.trans mf, fun a o e no => kp a o e fun z => no (.inr ⟨_, LA.mem, z.symm⟩), fun a h => .inl h, dom, fun a o e => ?_⟩
          by_cases z : a = f
          · rw [z]; exact .inr (.inr hfn)
          · rw [upd_ne z] at e
            by_cases z2 : a = c'
            · rcases hc0 with y | y
              · rw [z2]; exact .inr (.inr y)
              · rw [z2, upd_same] at e; cases e; rw [z2]; exact .inl y
            · rw [upd_ne z2] at e; exact .inl e
        have hd := DoneE.later hd sp
        have ta : tA C W (whole.drop (n + 1)) σ H2 fun us3 H3 => ∃ (M3 : Hp) (nv3 : Nv) (ds ds2 cs : List D), StR C.K M3 H3 σ nv3 ∧ M3 f = some (.frz (lamObj L.qual L.params L.body L.scope (cloFrom X.env.cells L.scope.names []) pm c' ctv) (.ext fun _ => True)) ∧ M3 c' = some (CodeO c' L.qual) ∧
            Reps C.K M3 ds vs ∧ Reps C.K M3 ds2 us3 ∧ us3.length = whole.length - (n + 1) ∧ capsD nv3 caps = some cs ∧ DoneE C W M3 H3 σ nv3 (callLOn Φ i k (some ds) (some ds2) (some cs) nv3) Q := by
          refine h2 _ H2 σ nv1 _ st2 ?_
          cases e2 : evOs Φ shs fs nv1 with
          | stuck => rw [e2] at hd; exact hd.elim
          | exc cc as nv2 => rw [e2] at hd; exact hd
          | ok os2 nv2 =>
            rw [e2] at hd
            simp only [Rs.bind] at hd
            intro M3 H3 s3 st3 us3 hu
            have hd := DoneE.later hd s3
            cases e3 : inls os with
            | none => rw [e3] at hd; exact hd.elim
            | some ds =>
              rw [e3] at hd
              cases e4 : inls os2 with
              | none => rw [e4] at hd; exact hd.elim
              | some ds2 =>
                rw [e4] at hd
                cases e5 : capsD nv2 caps with
                | none => rw [e5] at hd; exact hd.elim
                | some cs =>
                  rw [e5] at hd
                  refine ⟨M3, nv2, ds, ds2, cs, st3, s3.mm _ _ upd_same, s3.mm _ _ (by rw [upd_ne (fun z => nfc z.symm)]; exact upd_same), Reps.mono ((mc.trans mf).trans s3.mm) (inls_reps e3 hv), inls_reps e4 hu, ?_, e5, hd⟩
                  rw [← hu.length, evOs_len e2, hfl]
        refine thn (ta.un X hX pos pins s2 I2) fun us s4 ⟨us3, H3, I3, r3, M3, nv3, ds, ds2, cs, st3, g1, g2, g3, g4, g5, g6, g7⟩ => ⟨.ref f :: us3, H3, I3, .cons rfl r3, vs, us3, f, c', pm, ctv, M3, nv3, ds, ds2, cs, rfl, st3, g1, g2, g3, g4, ?_, g5, g6, g7⟩
        rw [← hv.length, evOs_len e1, hel]
  have hne : ∃ x xs, whole = x :: xs := by
    cases whole with
    | nil => simp at hwl
    | cons x xs => exact ⟨x, xs, rfl⟩
  obtain ⟨x, xs, rfl⟩ := hne
  obtain ⟨n1, n2⟩ := noStars_cons ns
  refine PySem.W.callWith_K (h₀ := X.base) I.ok.mod.kin (by rw [hX.K]; exact hk) ?_ (star_cons n1 _ _) (plain_back n2)
  refine thn (go pos pins s I) fun us s1 ⟨ws, H1, I1, r, vs, vs2, f, c', pm, ctv, M3, nv3, ds, ds2, cs, e, st3, hfo, hco, hv, hv2, l1, l2, hcs, hd3⟩ => ⟨I1.kIn, ?_⟩
  subst e
  obtain ⟨us1, us2', rfl, r1, r2⟩ := vals_mid r
  exact call_lam FO hB hL LA hX I1 st3 hfo hco r1 r2 hv hv2 (by omega) hcs hd3
end
end G
namespace G
open PySem PySem.Spec PyProof.Rows L2 LamX
/-! ### where a lambda stands in the text -/
def retE (b : List Stmt) : Expr := match b.getLast? with
  | some (.Return (some e) _) => e
  | _ => .Constant .none 0 ⟨0, 0, 0, 0⟩
def argE (e : Expr) (i : Nat) : Expr := match e with
  | .Call _ as _ _ => as.getD i e
  | _ => e
def lmP : Expr → Arguments
  | .Lambda p _ _ _ => p
  | _ => ⟨[], [], none, [], [], none, []⟩
def lmB : Expr → Expr
  | .Lambda _ b _ _ => b
  | e => e
def lmS (s : Scope) : Expr → Scope
  | .Lambda _ _ s _ => s
  | _ => s
section
variable {P : Program} {w : World} {K : PySem.W.Frag} {mg : Str → Option Value} {base : Heap} {k : Nat} {exA : Nat → Option Addr}
variable [Tb]
theorem ft_lam {sc sc' : Scope} {N N' : List Str} {pr : List Nat} {Φ : Fn} {ft : Nat → Option FnI} {T : ShT} {cd : Option (Value × Str)} (F : FtOk (cfgOf P w K mg base sc N pr k exA cd) Φ ft T) : FtOk (cfgLam P w K mg base sc' N' k exA) Φ ft T := ⟨F.at_, F.sh⟩
theorem lt_move {sc sc' : Scope} {N N' : List Str} {pr pr' : List Nat} {Φ : Fn} {lt : Nat → Option Nat} {cd cd' : Option (Value × Str)} (F : LtOk (cfgOf P w K mg base sc N pr k exA cd) Φ lt) : LtOk (cfgOf P w K mg base sc' N' pr' k exA cd') Φ lt := ⟨F.at_⟩
theorem lam_zero {C : Cfg} {L : Lam} {n m : Nat} {ds : List Df} {shs : Nat → Nat → Shape} {i : Nat} : LamOk P w K mg base 0 L n (spOf C (calls ds shs 0) i m) :=
  ⟨fun A outer s H f c' pm ctv clo us vs vsC Q hr he hb hv hs hh hl hx => by
    obtain ⟨_, M, ss, _, h⟩ := hx
    exact h.elim⟩
theorem lamAt_of {sc : Scope} {N : List Str} {pr : List Nat} {L : Lam} {c Pa : Addr} {caps : List Nat} {q : Str} (hq : L.qual = q ++ "<lambda>") (tb : TabB base mg c Pa) (mem : (Pa, L.qual) ∈ Tb.tabs) (uni : ∀ p ∈ Tb.tabs, p.1 = Pa → p.2 = L.qual) (dft : ∀ env, defaultsOf L.params env = ([], []))
    (hfr : L.scope.names.all (fun y => !decide (y.2 = .free) || decide (y.1 ∈ L.caps)) = true) (hfrk : L.caps.all (fun y => decide ((y, NameKind.free) ∈ L.scope.names)) = true) (hcel : L.caps.all (fun y => decide (sc.names.lookup y = some .cell)) = true)
    (hpr : L.caps.all (fun y => !(pr.any fun i => decide (N[i]? = some y))) = true) (hat : caps.map (fun j => N[j]?) = L.caps.map some) : LamAt (cfgOf P w K mg base sc N pr k exA (some (.ref c, q))) L c Pa caps := by
  refine ⟨⟨q, rfl, hq⟩, tb, mem, uni, dft, fun y hy e => ?_, fun y hy => ?_, fun y hy => ⟨?_, ?_⟩, hat⟩
  · have := List.all_eq_true.mp hfr y hy
    simpa [e] using this
  · exact of_decide_eq_true (List.all_eq_true.mp hfrk y hy)
  · exact of_decide_eq_true (List.all_eq_true.mp hcel y hy)
  · have h1 := of_decide_eq_true (List.all_eq_true.mp hcel y hy)
    have h2 := List.all_eq_true.mp hpr y hy
    show (_ && _) = true
    rw [Bool.and_eq_true]
    refine ⟨?_, h2⟩
    rw [Bool.or_eq_true]
    exact .inr (decide_eq_true h1)
theorem ks_of {lt : Nat → Option Nat} {ks : List Nat} {n : Nat} (h : (ks.all fun k => decide (lt k = some n)) = true) : ∀ k ∈ ks, lt k = some n := fun k hk => of_decide_eq_true (List.all_eq_true.mp h k hk)
/-! ### calls that leave keywords out -/
/-- what a keyword that lacks stands for -/
def DefR (K : PySem.W.Frag) (d : D) (v : V) : Prop := ∀ M : Hp, Rep K M d v
inductive DefRs (K : PySem.W.Frag) : List D → List V → Prop where
  | nil : DefRs K [] []
  | cons {d v ds vs} (a : DefR K d v) (b : DefRs K ds vs) : DefRs K (d :: ds) (v :: vs)
end
end G
namespace K03
open PySem PySem.Spec PyProof.Rows L2 G
abbrev tp (i : Nat) : Stmt := PySem.Challenge.pw_gazette_k03_whole_only_named_matters.main.body.getD i (.Pass ⟨0, 0, 0, 0⟩)
def nms : List (Str × List Str) := [(("holders_of" : Str), (["seats", "chamber"] : List Str)), (("vote_of" : Str), (["roll_call", "member"] : List Str)), (("tally" : Str), (["seats", "roll_call", "chamber"] : List Str)), (("leaves" : Str), (["rule"] : List Str)), (("simple_passes" : Str), (["rule", "counted", "parameters"] : List Str)), (("evaluate" : Str), (["rule", "tally_at", "premier_agrees", "parameters"] : List Str)), (("passes" : Str), (["rule", "seats", "roll_call", "parameters", "premier"] : List Str)), (("named" : Str), (["rule"] : List Str)), (("_threshold_value" : Str), (["threshold", "parameters"] : List Str)), (("_denominator_value" : Str), (["denominator", "counted"] : List Str)), (("_law_tape" : Str), (["script"] : List Str)), (("_law_draw" : Str), (["tape", "many"] : List Str)), (("_law_same" : Str), (["actual", "expected"] : List Str)), (("_law_holders" : Str), (["tape", "top"] : List Str)), (("_law_seats" : Str), (["tape", "most"] : List Str)), (("_law_roll" : Str), (["tape", "many"] : List Str)), (("_law_tally" : Str), (["seats", "roll", "chamber"] : List Str)), (("_law_limits" : Str), (["tape"] : List Str)), (("_law_leader" : Str), (["tape"] : List Str)), (("_law_threshold" : Str), (["tape"] : List Str)), (("_law_simple" : Str), (["tape", "chambers", "kinds"] : List Str)), (("_law_rule" : Str), (["tape", "chambers", "kinds", "depth"] : List Str)), (("_law_limit" : Str), (["threshold", "limits"] : List Str)), (("_law_by_counts" : Str), (["rule", "counts", "limits"] : List Str)), (("_law_passes" : Str), (["rule", "seats", "roll", "limits", "leader"] : List Str)), (("_law_leaves" : Str), (["rule"] : List Str)), (("_law_chambers_of" : Str), (["rule"] : List Str)), (("_law_numbers_of" : Str), (["rule"] : List Str)), (("_law_other_limits" : Str), (["tape", "limits", "numbers"] : List Str)), (("law" : Str), (["script"] : List Str))]
def ft (fa : Nat → Addr) (fdd : Nat → FuncData) : Nat → Option FnI := fun i => (nms[i]?).map fun q => ⟨q.1, fa i, fdd i, q.2⟩
def tab : List (List (Nat × List Str × G.Shape)) := [([(2, [], [.inl 0, .inl 1])] : List (Nat × List Str × G.Shape)), ([(2, [], [.inl 0, .inl 1])] : List (Nat × List Str × G.Shape)), ([(3, [], [.inl 0, .inl 1, .inl 2])] : List (Nat × List Str × G.Shape)), ([(1, [], [.inl 0])] : List (Nat × List Str × G.Shape)), ([(3, [], [.inl 0, .inl 1, .inl 2])] : List (Nat × List Str × G.Shape)), ([(4, [], [.inl 0, .inl 1, .inl 2, .inl 3])] : List (Nat × List Str × G.Shape)), ([(3, ["parameters", "premier"], [.inl 0, .inl 1, .inl 2, .inl 3, .inl 4])] : List (Nat × List Str × G.Shape)), ([(1, [], [.inl 0])] : List (Nat × List Str × G.Shape)), ([(2, [], [.inl 0, .inl 1])] : List (Nat × List Str × G.Shape)), ([(2, [], [.inl 0, .inl 1])] : List (Nat × List Str × G.Shape)), ([(1, [], [.inl 0])] : List (Nat × List Str × G.Shape)), ([(2, [], [.inl 0, .inl 1])] : List (Nat × List Str × G.Shape)), ([(2, [], [.inl 0, .inl 1])] : List (Nat × List Str × G.Shape)), ([(2, [], [.inl 0, .inl 1])] : List (Nat × List Str × G.Shape)), ([(2, [], [.inl 0, .inl 1])] : List (Nat × List Str × G.Shape)), ([(2, [], [.inl 0, .inl 1])] : List (Nat × List Str × G.Shape)), ([(3, [], [.inl 0, .inl 1, .inl 2])] : List (Nat × List Str × G.Shape)), ([(1, [], [.inl 0])] : List (Nat × List Str × G.Shape)), ([(1, [], [.inl 0])] : List (Nat × List Str × G.Shape)), ([(1, [], [.inl 0])] : List (Nat × List Str × G.Shape)), ([(3, [], [.inl 0, .inl 1, .inl 2])] : List (Nat × List Str × G.Shape)), ([(4, [], [.inl 0, .inl 1, .inl 2, .inl 3])] : List (Nat × List Str × G.Shape)), ([(2, [], [.inl 0, .inl 1])] : List (Nat × List Str × G.Shape)), ([(3, [], [.inl 0, .inl 1, .inl 2])] : List (Nat × List Str × G.Shape)), ([(5, [], [.inl 0, .inl 1, .inl 2, .inl 3, .inl 4])] : List (Nat × List Str × G.Shape)), ([(1, [], [.inl 0])] : List (Nat × List Str × G.Shape)), ([(1, [], [.inl 0])] : List (Nat × List Str × G.Shape)), ([(1, [], [.inl 0])] : List (Nat × List Str × G.Shape)), ([(3, [], [.inl 0, .inl 1, .inl 2])] : List (Nat × List Str × G.Shape)), ([(1, [], [.inl 0])] : List (Nat × List Str × G.Shape))]
def tt : ShT := fun i j => (tab[i]?).bind fun q => q[j]?
abbrev s0 : Stmt := tp 1
abbrev n0 : List Str := ["seats", "chamber"]
def d0 : Df := ⟨2, [], [.ret (.ife (.op2 .lt (.var 1) (.op1 .len (.var 0))) (.op2 .ix (.var 0) (.var 1)) (.tup []))]⟩
abbrev s1 : Stmt := tp 2
abbrev n1 : List Str := ["roll_call", "member"]
def d1 : Df := ⟨2, [], [.ret (.ife (.op2 .lt (.var 1) (.op1 .len (.var 0))) (.op2 .ix (.var 0) (.var 1)) (.str "-"))]⟩
abbrev s2 : Stmt := tp 3
abbrev n2 : List Str := ["seats", "roll_call", "chamber", "holders", "votes", "holder"]
def d2 : Df := ⟨6, [], [.asg (.nm 3) (.call 0 0 [.var 0, .var 2]), .asg (.nm 4) (.comp (.nm 5) .seq [.var 3] [.op1 .notN (.var 5)] (.call 1 0 [.var 1, .var 5]) [5]), .ret (.tup [.op1 .len (.var 3), .mop .count (.var 4) (.str "Y"), .mop .count (.var 4) (.str "N"), .mop .count (.var 4) (.str "P")])]⟩
abbrev s3 : Stmt := tp 5
abbrev n3 : List Str := ["rule"]
def d3 : Df := ⟨1, [], [.ife (.op2 .inn (.op2 .ix (.var 0) (.int 0)) (.tup [.str "all", .str "any"])) [.ret (.op2 .add (.call 3 0 [.op2 .ix (.var 0) (.int 1)]) (.call 3 0 [.op2 .ix (.var 0) (.int 2)]))] [], .ret (.lst [.var 0])]⟩
abbrev s4 : Stmt := tp 6
abbrev n4 : List Str := ["rule", "counted", "parameters", "_", "yeas", "nays", "present", "kind"]
def d4 : Df := ⟨8, [], [.asg (.nms [3, 4, 5, 6]) (.var 1), .asg (.nm 7) (.op2 .ix (.var 0) (.int 0)), .ife (.op2 .eq (.var 7) (.str "yeas")) [.ret (.op2 .ge (.var 4) (.call 8 0 [.op2 .ix (.var 0) (.int 2), .var 2]))] [], .ife (.op2 .eq (.var 7) (.str "quorum")) [.ret (.op2 .ge (.op2 .add (.op2 .add (.var 4) (.var 5)) (.var 6)) (.call 8 0 [.op2 .ix (.var 0) (.int 2), .var 2]))] [], .ife (.op2 .eq (.var 7) (.str "majority")) [.ret (.op2 .gt (.op2 .mul (.int 2) (.var 4)) (.call 9 0 [.op2 .ix (.var 0) (.int 2), .var 1]))] [], .ret (.op2 .ge (.op2 .mul (.op2 .ix (.var 0) (.int 3)) (.var 4)) (.op2 .mul (.op2 .ix (.var 0) (.int 2)) (.call 9 0 [.op2 .ix (.var 0) (.int 4), .var 1])))]⟩
abbrev s5 : Stmt := tp 7
abbrev n5 : List Str := ["rule", "tally_at", "premier_agrees", "parameters", "kind", "first", "second"]
def d5 : Df := ⟨7, [], [.asg (.nm 4) (.op2 .ix (.var 0) (.int 0)), .ife (.op2 .eq (.var 4) (.str "premier")) [.ret (.mov 2)] [], .ife (.op2 .nin (.var 4) (.tup [.str "all", .str "any"])) [.ret (.call 4 0 [.var 0, .capp 1 [30] [.op2 .ix (.var 0) (.int 1)], .var 3])] [], .asg (.nm 5) (.call 5 0 [.op2 .ix (.var 0) (.int 1), .brw 1, .var 2, .var 3]), .asg (.nm 6) (.call 5 0 [.op2 .ix (.var 0) (.int 2), .brw 1, .var 2, .var 3]), .ret (.ife (.op2 .eq (.var 4) (.str "all")) (.and_ (.var 5) (.var 6)) (.or_ (.var 5) (.var 6)))]⟩
abbrev s6 : Stmt := tp 8
abbrev n6 : List Str := ["rule", "seats", "roll_call", "parameters", "premier", "premier_agrees"]
def d6 : Df := ⟨6, [], [.asg (.nm 5) (.and_ (.op1 .notN (.var 4)) (.op2 .eq (.call 1 0 [.var 2, .var 4]) (.str "Y"))), .ret (.callL 5 [.var 0] 30 [1, 2] [.var 5, .var 3])]⟩
abbrev s7 : Stmt := tp 9
abbrev n7 : List Str := ["rule", "simple", "chambers", "thresholds", "numbers", "leaf", "threshold"]
def d7 : Df := ⟨7, [], [.asg (.nm 1) (.comp (.nm 5) .seq [.call 3 0 [.var 0]] [.op2 .ne (.op2 .ix (.var 5) (.int 0)) (.str "premier")] (.var 5) [5]), .asg (.nm 2) (.comp (.nm 5) .seq [.var 1] [] (.op2 .ix (.var 5) (.int 1)) [5]), .asg (.nm 3) (.comp (.nm 5) .seq [.var 1] [.op2 .inn (.op2 .ix (.var 5) (.int 0)) (.tup [.str "yeas", .str "quorum"])] (.op2 .ix (.var 5) (.int 2)) [5]), .asg (.nm 4) (.comp (.nm 6) .seq [.var 3] [.op1 .truth (.op1 (.isi 0) (.var 6))] (.op2 .ix (.var 6) (.int 1)) [6]), .ret (.tup [.op1 .tupl (.op1 .srtSet (.var 2)), .op1 .tupl (.op1 .srtSet (.var 4))])]⟩
abbrev s8 : Stmt := tp 10
abbrev n8 : List Str := ["threshold", "parameters", "number"]
def d8 : Df := ⟨3, [], [.ife (.not_ (.op1 .truth (.op1 (.isi 0) (.var 0)))) [.ret (.mov 0)] [], .asg (.nm 2) (.op2 .ix (.var 0) (.int 1)), .ret (.ife (.op2 .lt (.var 2) (.op1 .len (.var 1))) (.op2 .ix (.var 1) (.var 2)) (.int 0))]⟩
abbrev s9 : Stmt := tp 11
abbrev n9 : List Str := ["denominator", "counted", "many", "yeas", "nays", "present"]
def d9 : Df := ⟨6, [], [.asg (.nms [2, 3, 4, 5]) (.var 1), .ife (.op2 .eq (.var 0) (.str "seats")) [.ret (.mov 2)] [], .ife (.op2 .eq (.var 0) (.str "attending")) [.ret (.op2 .add (.op2 .add (.var 3) (.var 4)) (.var 5))] [], .ret (.op2 .add (.var 3) (.var 4))]⟩
abbrev s10 : Stmt := tp 13
abbrev n10 : List Str := ["script", "total", "cell"]
def d10 : Df := ⟨3, [], [.asg (.nm 1) (.int 7), .kill [2], .for_ (.nm 2) .seq [.var 0] [.asg (.nm 1) (.op2 .mod (.op1 .int (.op2 .add (.op2 .mul (.var 1) (.int 31)) (.op1 .abs (.op1 .int (.var 2))))) (.int 2147483647)), .kill [2]], .ret (.lst [.op1 .list (.var 0), .int 0, .int 0, .var 1])]⟩
abbrev s11 : Stmt := tp 14
abbrev n11 : List Str := ["tape", "many", "place", "number"]
def d11 : Df := ⟨4, [0], [.ife (.op2 .eq (.op2 .ix (.var 0) (.int 2)) (.int 0)) [.asg (.nm 2) (.op2 .ix (.var 0) (.int 1)), .asg (.nm 3) (.int 0), .ife (.op2 .lt (.var 2) (.op1 .len (.op2 .ix (.var 0) (.int 0)))) [.asg (.nm 3) (.op1 .abs (.op1 .int (.op2 .ix (.op2 .ix (.var 0) (.int 0)) (.var 2)))), .kill []] [.sti 0 (.int 3) (.op2 .mod (.op1 .int (.op2 .add (.op2 .add (.op2 .mul (.op2 .ix (.var 0) (.int 3)) (.int 48271)) (.var 2)) (.int 1))) (.int 2147483647)), .asg (.nm 3) (.op2 .ix (.var 0) (.int 3)), .kill []], .sti 0 (.int 1) (.op2 .add (.var 2) (.int 1)), .ife (.op2 .lt (.var 3) (.op2 .pow (.int 10) (.int 18))) [.asg (.nm 3) (.op2 .mod (.op1 .int (.op2 .add (.op2 .add (.op2 .mul (.var 3) (.int 48271)) (.op2 .mul (.var 2) (.int 69621))) (.int 5))) (.int 2147483647)), .asg (.nm 3) (.op2 .mod (.op1 .int (.op2 .mul (.var 3) (.int 69621))) (.int 2147483629)), .ret (.op2 .mod (.op1 .int (.var 3)) (.op2 .max (.var 1) (.int 1)))] [], .sti 0 (.int 2) (.var 3)] [], .asg (.nm 3) (.op2 .ix (.var 0) (.int 2)), .sti 0 (.int 2) (.op2 .fdiv (.var 3) (.op2 .max (.var 1) (.int 2))), .ret (.op2 .mod (.op1 .int (.var 3)) (.op2 .max (.var 1) (.int 1)))]⟩
abbrev s12 : Stmt := tp 15
abbrev n12 : List Str := ["actual", "expected", "k"]
def d12 : Df := ⟨3, [], [.ife (.op1 .isN (.var 1)) [.ret (.op1 .isN (.var 0))] [], .ife (.op1 .truth (.op1 (.isi 0) (.var 1))) [.ife (.or_ (.not_ (.op1 .truth (.op1 (.isi 0) (.var 0)))) (.op2 .ne (.op1 .len (.var 0)) (.op1 .len (.var 1)))) [.ret (.bl false)] [], .kill [2], .for_ (.nm 2) .rng [.op1 .len (.var 1)] [.ife (.not_ (.op1 .truth (.call 12 0 [.op2 .ix (.var 0) (.var 2), .op2 .ix (.var 1) (.var 2)]))) [.ret (.bl false)] [], .kill [2]], .ret (.bl true)] [], .ife (.op1 .truth (.op1 (.isi 1) (.var 1))) [.ret (.and_ (.op1 (.isi 1) (.var 0)) (.op2 .eq (.var 0) (.var 1)))] [], .ife (.op1 .truth (.op1 (.isi 2) (.var 1))) [.ret (.and_ (.op1 (.isi 2) (.var 0)) (.op2 .eq (.var 0) (.var 1)))] [], .ret (.and_ (.op1 (.isi 3) (.var 0)) (.and_ (.not_ (.op1 (.isi 1) (.var 0))) (.op2 .eq (.var 0) (.var 1))))]⟩
abbrev s13 : Stmt := tp 16
abbrev n13 : List Str := ["tape", "top", "holders", "j"]
def d13 : Df := ⟨4, [0], [.asg (.nm 2) (.lst []), .kill [3], .for_ (.nm 3) .rng [.op2 .add (.int 1) (.call 11 0 [.brw 0, .int 12])] [.ife (.op2 .eq (.call 11 0 [.brw 0, .int 4]) (.int 0)) [.expr (.mth .app 2 [.non])] [.expr (.mth .app 2 [.call 11 0 [.brw 0, .var 1]])], .kill [3]], .ret (.op1 .tupl (.var 2))]⟩
abbrev s14 : Stmt := tp 17
abbrev n14 : List Str := ["tape", "most", "top", "chambers", "k"]
def d14 : Df := ⟨5, [0], [.asg (.nm 2) (.op2 .ix (.lst [.int 12, .int 12, .int 4, .int 2]) (.call 11 0 [.brw 0, .int 4])), .asg (.nm 3) (.lst []), .kill [4], .for_ (.nm 4) .rng [.op2 .add (.int 1) (.call 11 0 [.brw 0, .var 1])] [.expr (.mth .app 3 [.call 13 0 [.brw 0, .var 2]]), .kill [4]], .ret (.op1 .tupl (.var 3))]⟩
abbrev s15 : Stmt := tp 18
abbrev n15 : List Str := ["tape", "many", "k"]
def d15 : Df := ⟨3, [0], [.ret (.mop .join (.str "") (.comp (.nm 2) .rng [.var 1] [] (.op2 .ix (.str "YYNNP-") (.call 11 0 [.brw 0, .int 6])) [2]))]⟩
abbrev s16 : Stmt := tp 19
abbrev n16 : List Str := ["seats", "roll", "chamber", "counts", "holder", "vote"]
def d16 : Df := ⟨6, [], [.ife (.op2 .ge (.var 2) (.op1 .len (.var 0))) [.ret (.tup [.int 0, .int 0, .int 0, .int 0])] [], .asg (.nm 3) (.lst [.int 0, .int 0, .int 0]), .kill [4, 5], .for_ (.nm 4) .seq [.op2 .ix (.var 0) (.var 2)] [.ife (.and_ (.op1 .notN (.var 4)) (.and_ (.op2 .lt (.var 4) (.op1 .len (.var 1))) (.op2 .ne (.op2 .ix (.var 1) (.var 4)) (.str "-")))) [.asg (.nm 5) (.mop .sidx (.str "YNP") (.op2 .ix (.var 1) (.var 4))), .sti 3 (.var 5) (.op2 .add (.op2 .ix (.var 3) (.var 5)) (.int 1))] [], .kill [4, 5]], .ret (.tup [.op1 .len (.op2 .ix (.var 0) (.var 2)), .op2 .ix (.var 3) (.int 0), .op2 .ix (.var 3) (.int 1), .op2 .ix (.var 3) (.int 2)])]⟩
abbrev s17 : Stmt := tp 20
abbrev n17 : List Str := ["tape", "many", "k"]
def d17 : Df := ⟨3, [0], [.asg (.nm 1) (.op2 .ix (.lst [.int 0, .int 1, .int 3, .call 11 0 [.brw 0, .int 9]]) (.call 11 0 [.brw 0, .int 4])), .ret (.op1 .tupl (.comp (.nm 2) .rng [.var 1] [] (.call 11 0 [.brw 0, .op2 .ix (.lst [.int 3, .int 14, .int 14, .int 1001]) (.call 11 0 [.brw 0, .int 4])]) [2]))]⟩
abbrev s18 : Stmt := tp 21
abbrev n18 : List Str := ["tape"]
def d18 : Df := ⟨1, [0], [.ret (.op2 .ix (.lst [.non, .call 11 0 [.brw 0, .int 12]]) (.op1 .int (.op2 .gt (.call 11 0 [.brw 0, .int 3]) (.int 0))))]⟩
abbrev s19 : Stmt := tp 22
abbrev n19 : List Str := ["tape", "choice"]
def d19 : Df := ⟨2, [0], [.asg (.nm 1) (.call 11 0 [.brw 0, .int 8]), .ife (.op2 .lt (.var 1) (.int 2)) [.ret (.tup [.str "parameter", .call 11 0 [.brw 0, .op2 .ix (.lst [.int 3, .int 8]) (.call 11 0 [.brw 0, .int 2])]])] [], .ife (.op2 .eq (.var 1) (.int 2)) [.ret (.op2 .ix (.lst [.int 0, .int 1, .int 999, .int 1000]) (.call 11 0 [.brw 0, .int 4]))] [], .ife (.op2 .eq (.var 1) (.int 3)) [.ret (.call 11 0 [.brw 0, .int 1001])] [], .ret (.call 11 0 [.brw 0, .int 14])]⟩
abbrev s20 : Stmt := tp 23
abbrev n20 : List Str := ["tape", "chambers", "kinds", "chamber", "kind", "share", "q"]
def d20 : Df := ⟨7, [0], [.asg (.nm 3) (.op2 .ix (.var 1) (.call 11 0 [.brw 0, .op1 .len (.var 1)])), .asg (.nm 4) (.op2 .ix (.var 2) (.call 11 0 [.brw 0, .op1 .len (.var 2)])), .ife (.op2 .eq (.var 4) (.str "premier")) [.ret (.tup [.str "premier"])] [], .ife (.or_ (.op2 .eq (.var 4) (.str "yeas")) (.op2 .eq (.var 4) (.str "quorum"))) [.ret (.tup [.var 4, .var 3, .call 19 0 [.brw 0]])] [], .asg (.nm 5) (.op2 .ix (.lst [.str "seats", .str "attending", .str "voting"]) (.call 11 0 [.brw 0, .int 3])), .ife (.op2 .eq (.var 4) (.str "majority")) [.ret (.tup [.str "majority", .var 3, .var 5])] [], .asg (.nm 6) (.op2 .add (.int 1) (.call 11 0 [.brw 0, .int 12])), .ret (.tup [.str "fraction", .var 3, .op2 .add (.int 1) (.call 11 0 [.brw 0, .var 6]), .var 6, .var 5])]⟩
abbrev s21 : Stmt := tp 24
abbrev n21 : List Str := ["tape", "chambers", "kinds", "depth", "choice", "first"]
def d21 : Df := ⟨6, [0], [.asg (.nm 4) (.call 11 0 [.brw 0, .int 7]), .ife (.and_ (.op2 .gt (.var 3) (.int 1)) (.op2 .lt (.var 4) (.int 4))) [.asg (.nm 5) (.call 21 0 [.brw 0, .var 1, .var 2, .op2 .sub (.var 3) (.int 1)]), .ret (.tup [.op2 .ix (.lst [.str "all", .str "any", .str "all", .str "any"]) (.var 4), .var 5, .call 21 0 [.brw 0, .var 1, .var 2, .op2 .sub (.var 3) (.int 1)]])] [], .ret (.call 20 0 [.brw 0, .var 1, .var 2])]⟩
abbrev s22 : Stmt := tp 25
abbrev n22 : List Str := ["threshold", "limits"]
def d22 : Df := ⟨2, [], [.ife (.op1 .truth (.op1 (.isi 0) (.var 0))) [.ife (.op2 .lt (.op2 .ix (.var 0) (.int 1)) (.op1 .len (.var 1))) [.ret (.op2 .ix (.var 1) (.op2 .ix (.var 0) (.int 1)))] [], .ret (.int 0)] [], .ret (.mov 0)]⟩
abbrev s23 : Stmt := tp 26
abbrev n23 : List Str := ["rule", "counts", "limits", "attending", "share"]
def d23 : Df := ⟨5, [], [.asg (.nm 3) (.op2 .add (.op2 .add (.op2 .ix (.var 1) (.int 1)) (.op2 .ix (.var 1) (.int 2))) (.op2 .ix (.var 1) (.int 3))), .ife (.op2 .eq (.op2 .ix (.var 0) (.int 0)) (.str "yeas")) [.ret (.op2 .ge (.op2 .ix (.var 1) (.int 1)) (.call 22 0 [.op2 .ix (.var 0) (.int 2), .var 2]))] [], .ife (.op2 .eq (.op2 .ix (.var 0) (.int 0)) (.str "quorum")) [.ret (.op2 .ge (.var 3) (.call 22 0 [.op2 .ix (.var 0) (.int 2), .var 2]))] [], .asg (.nm 4) (.op2 .ix (.var 1) (.int 0)), .ife (.op2 .eq (.op2 .ix (.var 0) (.op1 .neg (.int 1))) (.str "attending")) [.asg (.nm 4) (.var 3), .kill [2, 3]] [.kill [2, 3]], .ife (.op2 .eq (.op2 .ix (.var 0) (.op1 .neg (.int 1))) (.str "voting")) [.asg (.nm 4) (.op2 .add (.op2 .ix (.var 1) (.int 1)) (.op2 .ix (.var 1) (.int 2))), .kill [2, 3]] [.kill [2, 3]], .ife (.op2 .eq (.op2 .ix (.var 0) (.int 0)) (.str "majority")) [.ret (.op2 .gt (.op2 .mul (.int 2) (.op2 .ix (.var 1) (.int 1))) (.var 4))] [], .ret (.op2 .ge (.op2 .mul (.op2 .ix (.var 0) (.int 3)) (.op2 .ix (.var 1) (.int 1))) (.op2 .mul (.op2 .ix (.var 0) (.int 2)) (.var 4)))]⟩
abbrev s24 : Stmt := tp 27
abbrev n24 : List Str := ["rule", "seats", "roll", "limits", "leader", "first", "second"]
def d24 : Df := ⟨7, [], [.ife (.op2 .eq (.op2 .ix (.var 0) (.int 0)) (.str "premier")) [.ret (.and_ (.op1 .notN (.var 4)) (.and_ (.op2 .lt (.var 4) (.op1 .len (.var 2))) (.op2 .eq (.op2 .ix (.var 2) (.var 4)) (.str "Y"))))] [], .ife (.or_ (.op2 .eq (.op2 .ix (.var 0) (.int 0)) (.str "all")) (.op2 .eq (.op2 .ix (.var 0) (.int 0)) (.str "any"))) [.asg (.nm 5) (.call 24 0 [.op2 .ix (.var 0) (.int 1), .var 1, .var 2, .var 3, .var 4]), .asg (.nm 6) (.call 24 0 [.op2 .ix (.var 0) (.int 2), .var 1, .var 2, .var 3, .var 4]), .ife (.op2 .eq (.op2 .ix (.var 0) (.int 0)) (.str "all")) [.ret (.and_ (.var 5) (.var 6))] [], .ret (.or_ (.var 5) (.var 6))] [], .ret (.call 23 0 [.var 0, .call 16 0 [.var 1, .var 2, .op2 .ix (.var 0) (.int 1)], .var 3])]⟩
abbrev s25 : Stmt := tp 28
abbrev n25 : List Str := ["rule"]
def d25 : Df := ⟨1, [], [.ife (.or_ (.op2 .eq (.op2 .ix (.var 0) (.int 0)) (.str "all")) (.op2 .eq (.op2 .ix (.var 0) (.int 0)) (.str "any"))) [.ret (.op2 .add (.call 25 0 [.op2 .ix (.var 0) (.int 1)]) (.call 25 0 [.op2 .ix (.var 0) (.int 2)]))] [], .ret (.lst [.var 0])]⟩
abbrev s26 : Stmt := tp 29
abbrev n26 : List Str := ["rule", "leaf"]
def d26 : Df := ⟨2, [], [.ret (.op1 .srtSet (.comp (.nm 1) .seq [.call 25 0 [.var 0]] [.op2 .ne (.op2 .ix (.var 1) (.int 0)) (.str "premier")] (.op2 .ix (.var 1) (.int 1)) [1]))]⟩
abbrev s27 : Stmt := tp 30
abbrev n27 : List Str := ["rule", "numbers", "leaf"]
def d27 : Df := ⟨3, [], [.asg (.nm 1) (.lst []), .kill [2], .for_ (.nm 2) .seq [.call 25 0 [.var 0]] [.ife (.and_ (.op2 .inn (.op2 .ix (.var 2) (.int 0)) (.lst [.str "yeas", .str "quorum"])) (.op1 .truth (.op1 (.isi 0) (.op2 .ix (.var 2) (.int 2))))) [.expr (.mth .app 1 [.op2 .ix (.op2 .ix (.var 2) (.int 2)) (.int 1)])] [], .kill [2]], .ret (.op1 .srtSet (.var 1))]⟩
abbrev s28 : Stmt := tp 31
abbrev n28 : List Str := ["tape", "limits", "numbers", "many", "number", "other", "k", "value"]
def d28 : Df := ⟨8, [0], [.asg (.nm 3) (.call 11 0 [.brw 0, .int 9]), .kill [4, 5, 6, 7], .for_ (.nm 4) .seq [.var 2] [.ife (.and_ (.op2 .lt (.var 4) (.op1 .len (.var 1))) (.op2 .gt (.op2 .ix (.var 1) (.var 4)) (.int 0))) [.asg (.nm 3) (.op2 .max (.var 3) (.op2 .add (.var 4) (.int 1)))] [], .kill [4, 5, 6, 7]], .asg (.nm 5) (.lst []), .kill [4, 6, 7], .for_ (.nm 6) .rng [.var 3] [.asg (.nm 7) (.call 11 0 [.brw 0, .int 14]), .ife (.op2 .inn (.var 6) (.var 2)) [.asg (.nm 7) (.int 0), .ife (.op2 .lt (.var 6) (.op1 .len (.var 1))) [.asg (.nm 7) (.op2 .ix (.var 1) (.var 6))] [], .kill [4, 6]] [.kill [4, 6]], .expr (.mth .app 5 [.var 7]), .kill [4, 6, 7]], .ret (.op1 .tupl (.var 5))]⟩
abbrev s29 : Stmt := tp 32
abbrev n29 : List Str := ["script", "tape", "rule", "seats", "roll", "limits", "leader", "chambers", "numbers", "other", "row", "kept", "others", "k", "votes", "member", "due", "changed"]
def d29 : Df := ⟨18, [], [.asg (.nm 1) (.call 10 0 [.var 0]), .asg (.nm 2) (.call 21 0 [.brw 1, .lst [.int 0, .int 0, .int 1, .int 2, .int 3], .lst [.str "yeas", .str "quorum", .str "majority", .str "fraction", .str "quorum", .str "premier"], .int 4]), .asg (.nm 3) (.call 14 0 [.brw 1, .int 4]), .asg (.nm 4) (.call 15 0 [.brw 1, .call 11 0 [.brw 1, .int 13]]), .asg (.nm 5) (.call 17 0 [.brw 1]), .asg (.nm 6) (.call 18 0 [.brw 1]), .asg (.nm 7) (.call 26 0 [.var 2]), .asg (.nm 8) (.call 27 0 [.var 2]), .asg (.nm 9) (.call 21 0 [.brw 1, .lst [.int 0, .int 1, .int 2, .int 3], .lst [.str "yeas", .str "quorum", .str "majority", .str "fraction", .str "quorum", .str "premier"], .int 4]), .kill [0, 10, 11, 12, 13, 14, 15, 16, 17], .for_ (.nm 10) .seq [.lst [.var 9, .var 2]] [.ife (.not_ (.op1 .truth (.call 12 0 [.call 7 0 [.var 10], .tup [.op1 .tupl (.call 26 0 [.var 10]), .op1 .tupl (.call 27 0 [.var 10])]]))) [.ret (.bl false)] [], .kill [0, 10, 11, 12, 13, 14, 15, 16, 17]], .asg (.nm 11) (.lst []), .asg (.nm 12) (.lst []), .kill [0, 9, 10, 13, 14, 15, 16, 17], .for_ (.nm 13) .rng [.op1 .len (.var 3)] [.expr (.mth .app 12 [.call 13 0 [.brw 1, .int 12]]), .ife (.op2 .inn (.var 13) (.var 7)) [.sti 12 (.var 13) (.op2 .ix (.var 3) (.var 13)), .asg (.nm 11) (.op2 .add (.var 11) (.op1 .list (.op2 .ix (.var 3) (.var 13))))] [], .kill [0, 9, 10, 13, 14, 15, 16, 17]], .asg (.nm 9) (.call 18 0 [.brw 1]), .ife (.op2 .inn (.tup [.str "premier"]) (.call 25 0 [.var 2])) [.asg (.nm 9) (.var 6), .expr (.mth .app 11 [.var 6]), .kill [0, 7, 10, 13, 14, 15, 16, 17]] [.kill [0, 7, 10, 13, 14, 15, 16, 17]], .asg (.nm 14) (.op1 .list (.call 15 0 [.brw 1, .int 12])), .kill [0, 7, 10, 13, 15, 16, 17], .for_ (.nm 15) .rng [.int 12] [.ife (.op2 .inn (.var 15) (.var 11)) [.sti 14 (.var 15) (.op2 .ix (.op2 .add (.var 4) (.op2 .mul (.str "-") (.int 12))) (.var 15))] [], .kill [0, 7, 10, 13, 15, 16, 17]], .asg (.nm 16) (.call 24 0 [.var 2, .var 3, .var 4, .var 5, .var 6]), .ife (.not_ (.op1 .truth (.call 12 0 [.call 6 0 [.var 2, .var 3, .var 4, .var 5, .var 6], .var 16]))) [.ret (.bl false)] [], .asg (.nm 17) (.call 28 0 [.brw 1, .var 5, .var 8]), .ret (.call 12 0 [.call 6 0 [.var 2, .op1 .tupl (.var 12), .mop .join (.str "") (.var 14), .var 17, .var 9], .var 16])]⟩
def lam30 : Lam := ⟨lmP (argE (retE (defBody s6)) 1), lmB (argE (retE (defBody s6)) 1), lmS (defScope s6) (argE (retE (defBody s6)) 1), ((("passes" : Str) ++ ".<locals>.")) ++ "<lambda>", ["seats", "roll_call"]⟩
abbrev n30 : List Str := ["chamber", "seats", "roll_call"]
def x30 : E := .call 2 0 [.var 1, .var 2, .var 0]
def d30 : Df := ⟨3, [], [.ret x30]⟩
def lamF : Nat → Option Lam := fun i => if i = 30 then some lam30 else none
def lt : Nat → Option Nat := fun i => if i = 30 then some 1 else none
section
variable [Tb]
variable {P : Program} {w : World} {K : PySem.W.Frag} {mg : Str → Option Value} {base : Heap} {k : Nat} {exA : Nat → Option Addr} {Φ : Fn} {fa : Nat → Addr} {fdd : Nat → FuncData}
set_option maxHeartbeats 0 in
theorem b30 (B : BltOk (cfgLam P w K mg base lam30.scope n30 k exA)) (F : FtOk (cfgLam P w K mg base lam30.scope n30 k exA) Φ (ft fa fdd) tt) : SndE (cfgLam P w K mg base lam30.scope n30 k exA) W0 lam30.body (evE Φ (shsOf tt) x30) :=
  (snd_call (fi := ⟨"tally", fa 2, fdd 2, ["seats", "roll_call", "chamber"]⟩) F rfl rfl rfl rfl rfl rfl (sa_e rfl rfl (snd_var rfl) (sa_e rfl rfl (snd_var rfl) (sa_e rfl rfl (snd_var rfl) sndA_nil))))
set_option maxHeartbeats 0 in
theorem b0 (B : BltOk (cfgOf P w K mg base (defScope s0) n0 d0.pr k exA)) (F : FtOk (cfgOf P w K mg base (defScope s0) n0 d0.pr k exA) Φ (ft fa fdd) tt) (Lt : LtOk (cfgOf P w K mg base (defScope s0) n0 d0.pr k exA) Φ lt) (W : WX) : SndB (cfgOf P w K mg base (defScope s0) n0 d0.pr k exA) W (defBody s0) (evB Φ (shsOf tt) d0.body) :=
  (sndB_cons (sndS_ret (snd_ife (t_cmp rfl (so_v rfl) (so_e rfl (s_b1 B rfl rfl rfl (so_v rfl)))) (s_ix rfl (so_v rfl) (so_v rfl)) (snd_tup sndA_nil))) sndB_nil)
set_option maxHeartbeats 0 in
theorem b1 (B : BltOk (cfgOf P w K mg base (defScope s1) n1 d1.pr k exA)) (F : FtOk (cfgOf P w K mg base (defScope s1) n1 d1.pr k exA) Φ (ft fa fdd) tt) (Lt : LtOk (cfgOf P w K mg base (defScope s1) n1 d1.pr k exA) Φ lt) (W : WX) : SndB (cfgOf P w K mg base (defScope s1) n1 d1.pr k exA) W (defBody s1) (evB Φ (shsOf tt) d1.body) :=
  (sndB_cons (sndS_ret (snd_ife (t_cmp rfl (so_v rfl) (so_e rfl (s_b1 B rfl rfl rfl (so_v rfl)))) (s_ix rfl (so_v rfl) (so_v rfl)) snd_str)) sndB_nil)
set_option maxHeartbeats 0 in
theorem b2 (B : BltOk (cfgOf P w K mg base (defScope s2) n2 d2.pr k exA)) (F : FtOk (cfgOf P w K mg base (defScope s2) n2 d2.pr k exA) Φ (ft fa fdd) tt) (Lt : LtOk (cfgOf P w K mg base (defScope s2) n2 d2.pr k exA) Φ lt) (W : WX) : SndB (cfgOf P w K mg base (defScope s2) n2 d2.pr k exA) W (defBody s2) (evB Φ (shsOf tt) d2.body) :=
  (sndB_cons (sndS_asgN pr_cfg rfl rfl rfl (snd_call (fi := ⟨"holders_of", fa 0, fdd 0, ["seats", "chamber"]⟩) F rfl rfl rfl rfl rfl rfl (sa_e rfl rfl (snd_var rfl) (sa_e rfl rfl (snd_var rfl) sndA_nil)))) (sndB_cons (sndS_asgC pr_cfg rfl rfl rfl rfl rfl rfl (inOf rfl) rfl (sndI_seq rfl (snd_var rfl)) (sndC_one (t_notN (so_v rfl))) (snd_call (fi := ⟨"vote_of", fa 1, fdd 1, ["roll_call", "member"]⟩) (F.blk _) rfl rfl rfl rfl rfl rfl (sa_e rfl rfl (snd_var rfl) (sa_e rfl rfl (snd_var rfl) sndA_nil)))) (sndB_cons (sndS_ret (snd_tup (sa_e rfl rfl (s_b1 B rfl rfl rfl (so_v rfl)) (sa_e rfl rfl (s_count rfl rfl rfl (so_v rfl) (so_e rfl snd_str)) (sa_e rfl rfl (s_count rfl rfl rfl (so_v rfl) (so_e rfl snd_str)) (sa_e rfl rfl (s_count rfl rfl rfl (so_v rfl) (so_e rfl snd_str)) sndA_nil)))))) sndB_nil)))
set_option maxHeartbeats 0 in
theorem b3 (B : BltOk (cfgOf P w K mg base (defScope s3) n3 d3.pr k exA)) (F : FtOk (cfgOf P w K mg base (defScope s3) n3 d3.pr k exA) Φ (ft fa fdd) tt) (Lt : LtOk (cfgOf P w K mg base (defScope s3) n3 d3.pr k exA) Φ lt) (W : WX) : SndB (cfgOf P w K mg base (defScope s3) n3 d3.pr k exA) W (defBody s3) (evB Φ (shsOf tt) d3.body) :=
  (sndB_cons (sndS_ife (t_inn rfl (so_e rfl (s_ix rfl (so_v rfl) (so_e rfl snd_int))) (so_e rfl (snd_tup (sa_e rfl rfl snd_str (sa_e rfl rfl snd_str sndA_nil))))) (sndB_cons (sndS_ret (s_add (so_e rfl (snd_call (fi := ⟨"leaves", fa 3, fdd 3, ["rule"]⟩) F rfl rfl rfl rfl rfl rfl (sa_e rfl rfl (s_ix rfl (so_v rfl) (so_e rfl snd_int)) sndA_nil))) (so_e rfl (snd_call (fi := ⟨"leaves", fa 3, fdd 3, ["rule"]⟩) F rfl rfl rfl rfl rfl rfl (sa_e rfl rfl (s_ix rfl (so_v rfl) (so_e rfl snd_int)) sndA_nil))))) sndB_nil) sndB_nil) (sndB_cons (sndS_ret (snd_lst (sa_e rfl rfl (snd_var rfl) sndA_nil))) sndB_nil))
set_option maxHeartbeats 0 in
theorem b4 (B : BltOk (cfgOf P w K mg base (defScope s4) n4 d4.pr k exA)) (F : FtOk (cfgOf P w K mg base (defScope s4) n4 d4.pr k exA) Φ (ft fa fdd) tt) (Lt : LtOk (cfgOf P w K mg base (defScope s4) n4 d4.pr k exA) Φ lt) (W : WX) : SndB (cfgOf P w K mg base (defScope s4) n4 d4.pr k exA) W (defBody s4) (evB Φ (shsOf tt) d4.body) :=
  (sndB_cons (sndS_asgT pr_cfg rfl rfl rfl rfl rfl (fun _ z => by cases z) (ninOf rfl) (snd_var rfl)) (sndB_cons (sndS_asgN pr_cfg rfl rfl rfl (s_ix rfl (so_v rfl) (so_e rfl snd_int))) (sndB_cons (sndS_ife (t_cmp rfl (so_v rfl) (so_e rfl snd_str)) (sndB_cons (sndS_ret (s_cmp rfl (so_v rfl) (so_e rfl (snd_call (fi := ⟨"_threshold_value", fa 8, fdd 8, ["threshold", "parameters"]⟩) F rfl rfl rfl rfl rfl rfl (sa_e rfl rfl (s_ix rfl (so_v rfl) (so_e rfl snd_int)) (sa_e rfl rfl (snd_var rfl) sndA_nil)))))) sndB_nil) sndB_nil) (sndB_cons (sndS_ife (t_cmp rfl (so_v rfl) (so_e rfl snd_str)) (sndB_cons (sndS_ret (s_cmp rfl (so_e rfl (s_add (so_e rfl (s_add (so_v rfl) (so_v rfl))) (so_v rfl))) (so_e rfl (snd_call (fi := ⟨"_threshold_value", fa 8, fdd 8, ["threshold", "parameters"]⟩) F rfl rfl rfl rfl rfl rfl (sa_e rfl rfl (s_ix rfl (so_v rfl) (so_e rfl snd_int)) (sa_e rfl rfl (snd_var rfl) sndA_nil)))))) sndB_nil) sndB_nil) (sndB_cons (sndS_ife (t_cmp rfl (so_v rfl) (so_e rfl snd_str)) (sndB_cons (sndS_ret (s_cmp rfl (so_e rfl (s_mul (so_e rfl snd_int) (so_v rfl))) (so_e rfl (snd_call (fi := ⟨"_denominator_value", fa 9, fdd 9, ["denominator", "counted"]⟩) F rfl rfl rfl rfl rfl rfl (sa_e rfl rfl (s_ix rfl (so_v rfl) (so_e rfl snd_int)) (sa_e rfl rfl (snd_var rfl) sndA_nil)))))) sndB_nil) sndB_nil) (sndB_cons (sndS_ret (s_cmp rfl (so_e rfl (s_mul (so_e rfl (s_ix rfl (so_v rfl) (so_e rfl snd_int))) (so_v rfl))) (so_e rfl (s_mul (so_e rfl (s_ix rfl (so_v rfl) (so_e rfl snd_int))) (so_e rfl (snd_call (fi := ⟨"_denominator_value", fa 9, fdd 9, ["denominator", "counted"]⟩) F rfl rfl rfl rfl rfl rfl (sa_e rfl rfl (s_ix rfl (so_v rfl) (so_e rfl snd_int)) (sa_e rfl rfl (snd_var rfl) sndA_nil)))))))) sndB_nil))))))
set_option maxHeartbeats 0 in
theorem b5 (B : BltOk (cfgOf P w K mg base (defScope s5) n5 d5.pr k exA)) (F : FtOk (cfgOf P w K mg base (defScope s5) n5 d5.pr k exA) Φ (ft fa fdd) tt) (Lt : LtOk (cfgOf P w K mg base (defScope s5) n5 d5.pr k exA) Φ lt) (W : WX) : SndB (cfgOf P w K mg base (defScope s5) n5 d5.pr k exA) W (defBody s5) (evB Φ (shsOf tt) d5.body) :=
  (sndB_cons (sndS_asgN pr_cfg rfl rfl rfl (s_ix rfl (so_v rfl) (so_e rfl snd_int))) (sndB_cons (sndS_ife (t_cmp rfl (so_v rfl) (so_e rfl snd_str)) (sndB_cons (sndS_ret (snd_mov rfl)) sndB_nil) sndB_nil) (sndB_cons (sndS_ife (t_nin rfl (so_v rfl) (so_e rfl (snd_tup (sa_e rfl rfl snd_str (sa_e rfl rfl snd_str sndA_nil))))) (sndB_cons (sndS_ret (snd_call (fi := ⟨"simple_passes", fa 4, fdd 4, ["rule", "counted", "parameters"]⟩) F rfl rfl rfl rfl rfl rfl (sa_e rfl rfl (snd_var rfl) (sa_e rfl rfl (snd_capp (n := 0) Lt rfl (ks_of rfl) rfl rfl (sa_e rfl rfl (s_ix rfl (so_v rfl) (so_e rfl snd_int)) sndA_nil)) (sa_e rfl rfl (snd_var rfl) sndA_nil))))) sndB_nil) sndB_nil) (sndB_cons (sndS_asgN pr_cfg rfl rfl rfl (snd_call (fi := ⟨"evaluate", fa 5, fdd 5, ["rule", "tally_at", "premier_agrees", "parameters"]⟩) F rfl rfl rfl rfl rfl rfl (sa_e rfl rfl (s_ix rfl (so_v rfl) (so_e rfl snd_int)) (sa_b rfl (sa_e rfl rfl (snd_var rfl) (sa_e rfl rfl (snd_var rfl) sndA_nil)))))) (sndB_cons (sndS_asgN pr_cfg rfl rfl rfl (snd_call (fi := ⟨"evaluate", fa 5, fdd 5, ["rule", "tally_at", "premier_agrees", "parameters"]⟩) F rfl rfl rfl rfl rfl rfl (sa_e rfl rfl (s_ix rfl (so_v rfl) (so_e rfl snd_int)) (sa_b rfl (sa_e rfl rfl (snd_var rfl) (sa_e rfl rfl (snd_var rfl) sndA_nil)))))) (sndB_cons (sndS_ret (snd_ife (t_cmp rfl (so_v rfl) (so_e rfl snd_str)) (snd_andN (snd_var rfl) (snd_one (snd_var rfl))) (snd_orN (snd_var rfl) (snd_one (snd_var rfl))))) sndB_nil))))))
set_option maxHeartbeats 0 in
theorem b6 {cc30 Pc30 : Addr} (B : BltOk (cfgOf P w K mg base (defScope s6) n6 d6.pr k exA (some (.ref cc30, ((("passes" : Str) ++ ".<locals>.")))))) (F : FtOk (cfgOf P w K mg base (defScope s6) n6 d6.pr k exA (some (.ref cc30, ((("passes" : Str) ++ ".<locals>."))))) Φ (ft fa fdd) tt) (Lt : LtOk (cfgOf P w K mg base (defScope s6) n6 d6.pr k exA (some (.ref cc30, ((("passes" : Str) ++ ".<locals>."))))) Φ lt) (hL30 : Tb.lam 30 = some lam30) (LA30 : LamAt (cfgOf P w K mg base (defScope s6) n6 d6.pr k exA (some (.ref cc30, ((("passes" : Str) ++ ".<locals>."))))) lam30 cc30 Pc30 [1, 2]) (hB30 : L2.Binds K (fdd 5) ["rule", "tally_at", "premier_agrees", "parameters"] []) (W : WX) : SndB (cfgOf P w K mg base (defScope s6) n6 d6.pr k exA (some (.ref cc30, ((("passes" : Str) ++ ".<locals>."))))) W (defBody s6) (evB Φ (shsOf tt) d6.body) :=
  (sndB_cons (sndS_asgN pr_cfg rfl rfl rfl (snd_andN (s_notN (so_v rfl)) (snd_one (s_cmp rfl (so_e rfl (snd_call (fi := ⟨"vote_of", fa 1, fdd 1, ["roll_call", "member"]⟩) F rfl rfl rfl rfl rfl rfl (sa_e rfl rfl (snd_var rfl) (sa_e rfl rfl (snd_var rfl) sndA_nil)))) (so_e rfl snd_str))))) (sndB_cons (sndS_ret (snd_callL (n := 1) (fi := ⟨"evaluate", fa 5, fdd 5, ["rule", "tally_at", "premier_agrees", "parameters"]⟩) (L := lam30) F rfl rfl rfl hB30 hL30 LA30 rfl rfl rfl rfl rfl (sk_e rfl rfl (snd_var rfl) sk_nil) (sa_e rfl rfl (snd_var rfl) (sa_e rfl rfl (snd_var rfl) sndA_nil)))) sndB_nil))
set_option maxHeartbeats 0 in
theorem b7 (B : BltOk (cfgOf P w K mg base (defScope s7) n7 d7.pr k exA)) (F : FtOk (cfgOf P w K mg base (defScope s7) n7 d7.pr k exA) Φ (ft fa fdd) tt) (Lt : LtOk (cfgOf P w K mg base (defScope s7) n7 d7.pr k exA) Φ lt) (W : WX) : SndB (cfgOf P w K mg base (defScope s7) n7 d7.pr k exA) W (defBody s7) (evB Φ (shsOf tt) d7.body) :=
  (sndB_cons (sndS_asgC pr_cfg rfl rfl rfl rfl rfl rfl (inOf rfl) rfl (sndI_seq rfl (snd_call (fi := ⟨"leaves", fa 3, fdd 3, ["rule"]⟩) F rfl rfl rfl rfl rfl rfl (sa_e rfl rfl (snd_var rfl) sndA_nil))) (sndC_one (t_cmp rfl (so_e rfl (s_ix rfl (so_v rfl) (so_e rfl snd_int))) (so_e rfl snd_str))) (snd_var rfl)) (sndB_cons (sndS_asgC pr_cfg rfl rfl rfl rfl rfl rfl (inOf rfl) rfl (sndI_seq rfl (snd_var rfl)) sndC_nil (s_ix rfl (so_v rfl) (so_e rfl snd_int))) (sndB_cons (sndS_asgC pr_cfg rfl rfl rfl rfl rfl rfl (inOf rfl) rfl (sndI_seq rfl (snd_var rfl)) (sndC_one (t_inn rfl (so_e rfl (s_ix rfl (so_v rfl) (so_e rfl snd_int))) (so_e rfl (snd_tup (sa_e rfl rfl snd_str (sa_e rfl rfl snd_str sndA_nil)))))) (s_ix rfl (so_v rfl) (so_e rfl snd_int))) (sndB_cons (sndS_asgC pr_cfg rfl rfl rfl rfl rfl rfl (inOf rfl) rfl (sndI_seq rfl (snd_var rfl)) (sndC_one (sndT_truth rfl (so_e rfl (s_isi (B.blk _) rfl rfl rfl rfl (so_v rfl))))) (s_ix rfl (so_v rfl) (so_e rfl snd_int))) (sndB_cons (sndS_ret (snd_tup (sa_e rfl rfl (s_b1 B rfl rfl rfl (so_e rfl (s_srtSet B rfl rfl rfl (so_v rfl)))) (sa_e rfl rfl (s_b1 B rfl rfl rfl (so_e rfl (s_srtSet B rfl rfl rfl (so_v rfl)))) sndA_nil)))) sndB_nil)))))
set_option maxHeartbeats 0 in
theorem b8 (B : BltOk (cfgOf P w K mg base (defScope s8) n8 d8.pr k exA)) (F : FtOk (cfgOf P w K mg base (defScope s8) n8 d8.pr k exA) Φ (ft fa fdd) tt) (Lt : LtOk (cfgOf P w K mg base (defScope s8) n8 d8.pr k exA) Φ lt) (W : WX) : SndB (cfgOf P w K mg base (defScope s8) n8 d8.pr k exA) W (defBody s8) (evB Φ (shsOf tt) d8.body) :=
  (sndB_cons (sndS_ife (sndT_not (sndT_truth rfl (so_e rfl (s_isi B rfl rfl rfl rfl (so_v rfl))))) (sndB_cons (sndS_ret (snd_mov rfl)) sndB_nil) sndB_nil) (sndB_cons (sndS_asgN pr_cfg rfl rfl rfl (s_ix rfl (so_v rfl) (so_e rfl snd_int))) (sndB_cons (sndS_ret (snd_ife (t_cmp rfl (so_v rfl) (so_e rfl (s_b1 B rfl rfl rfl (so_v rfl)))) (s_ix rfl (so_v rfl) (so_v rfl)) snd_int)) sndB_nil)))
set_option maxHeartbeats 0 in
theorem b9 (B : BltOk (cfgOf P w K mg base (defScope s9) n9 d9.pr k exA)) (F : FtOk (cfgOf P w K mg base (defScope s9) n9 d9.pr k exA) Φ (ft fa fdd) tt) (Lt : LtOk (cfgOf P w K mg base (defScope s9) n9 d9.pr k exA) Φ lt) (W : WX) : SndB (cfgOf P w K mg base (defScope s9) n9 d9.pr k exA) W (defBody s9) (evB Φ (shsOf tt) d9.body) :=
  (sndB_cons (sndS_asgT pr_cfg rfl rfl rfl rfl rfl (fun _ z => by cases z) (ninOf rfl) (snd_var rfl)) (sndB_cons (sndS_ife (t_cmp rfl (so_v rfl) (so_e rfl snd_str)) (sndB_cons (sndS_ret (snd_mov rfl)) sndB_nil) sndB_nil) (sndB_cons (sndS_ife (t_cmp rfl (so_v rfl) (so_e rfl snd_str)) (sndB_cons (sndS_ret (s_add (so_e rfl (s_add (so_v rfl) (so_v rfl))) (so_v rfl))) sndB_nil) sndB_nil) (sndB_cons (sndS_ret (s_add (so_v rfl) (so_v rfl))) sndB_nil))))
set_option maxHeartbeats 0 in
theorem b10 (B : BltOk (cfgOf P w K mg base (defScope s10) n10 d10.pr k exA)) (F : FtOk (cfgOf P w K mg base (defScope s10) n10 d10.pr k exA) Φ (ft fa fdd) tt) (Lt : LtOk (cfgOf P w K mg base (defScope s10) n10 d10.pr k exA) Φ lt) (W : WX) : SndB (cfgOf P w K mg base (defScope s10) n10 d10.pr k exA) W (defBody s10) (evB Φ (shsOf tt) d10.body) :=
  (sndB_cons (sndS_asgN pr_cfg rfl rfl rfl snd_int) (sndB_kill (sndB_cons (sndS_for pr_cfg rfl (ninOf rfl) rfl (sndI_seq rfl (snd_var rfl)) (sndB_cons (sndS_asgN pr_cfg rfl rfl rfl (s_mod (so_e rfl (s_b1 B rfl rfl rfl (so_e rfl (s_add (so_e rfl (s_mul (so_v rfl) (so_e rfl snd_int))) (so_e rfl (s_b1 B rfl rfl rfl (so_e rfl (s_b1 B rfl rfl rfl (so_v rfl))))))))) (so_e rfl snd_int))) (sndB_kill sndB_nil))) (sndB_cons (sndS_ret (snd_lst (sa_e rfl rfl (s_b1 B rfl rfl rfl (so_v rfl)) (sa_e rfl rfl snd_int (sa_e rfl rfl snd_int (sa_e rfl rfl (snd_var rfl) sndA_nil)))))) sndB_nil))))
set_option maxHeartbeats 0 in
theorem b11 (B : BltOk (cfgOf P w K mg base (defScope s11) n11 d11.pr k exA)) (F : FtOk (cfgOf P w K mg base (defScope s11) n11 d11.pr k exA) Φ (ft fa fdd) tt) (Lt : LtOk (cfgOf P w K mg base (defScope s11) n11 d11.pr k exA) Φ lt) (W : WX) : SndB (cfgOf P w K mg base (defScope s11) n11 d11.pr k exA) W (defBody s11) (evB Φ (shsOf tt) d11.body) :=
  (sndB_cons (sndS_ife (t_cmp rfl (so_e rfl (s_ix rfl (so_v rfl) (so_e rfl snd_int))) (so_e rfl snd_int)) (sndB_cons (sndS_asgN pr_cfg rfl rfl rfl (s_ix rfl (so_v rfl) (so_e rfl snd_int))) (sndB_cons (sndS_asgN pr_cfg rfl rfl rfl snd_int) (sndB_cons (sndS_ife (t_cmp rfl (so_v rfl) (so_e rfl (s_b1 B rfl rfl rfl (so_e rfl (s_ix rfl (so_v rfl) (so_e rfl snd_int)))))) (sndB_cons (sndS_asgN pr_cfg rfl rfl rfl (s_b1 B rfl rfl rfl (so_e rfl (s_b1 B rfl rfl rfl (so_e rfl (s_ix rfl (so_e rfl (s_ix rfl (so_v rfl) (so_e rfl snd_int))) (so_v rfl))))))) (sndB_kill sndB_nil)) (sndB_cons (sndS_sti rfl rfl rfl snd_int (s_mod (so_e rfl (s_b1 B rfl rfl rfl (so_e rfl (s_add (so_e rfl (s_add (so_e rfl (s_mul (so_e rfl (s_ix rfl (so_v rfl) (so_e rfl snd_int))) (so_e rfl snd_int))) (so_v rfl))) (so_e rfl snd_int))))) (so_e rfl snd_int))) (sndB_cons (sndS_asgN pr_cfg rfl rfl rfl (s_ix rfl (so_v rfl) (so_e rfl snd_int))) (sndB_kill sndB_nil)))) (sndB_cons (sndS_sti rfl rfl rfl snd_int (s_add (so_v rfl) (so_e rfl snd_int))) (sndB_cons (sndS_ife (t_cmp rfl (so_v rfl) (so_e rfl (s_pow (so_e rfl snd_int) (so_e rfl snd_int)))) (sndB_cons (sndS_asgN pr_cfg rfl rfl rfl (s_mod (so_e rfl (s_b1 B rfl rfl rfl (so_e rfl (s_add (so_e rfl (s_add (so_e rfl (s_mul (so_v rfl) (so_e rfl snd_int))) (so_e rfl (s_mul (so_v rfl) (so_e rfl snd_int))))) (so_e rfl snd_int))))) (so_e rfl snd_int))) (sndB_cons (sndS_asgN pr_cfg rfl rfl rfl (s_mod (so_e rfl (s_b1 B rfl rfl rfl (so_e rfl (s_mul (so_v rfl) (so_e rfl snd_int))))) (so_e rfl snd_int))) (sndB_cons (sndS_ret (s_mod (so_e rfl (s_b1 B rfl rfl rfl (so_v rfl))) (so_e rfl (s_max B rfl rfl rfl (so_v rfl) (so_e rfl snd_int))))) sndB_nil))) sndB_nil) (sndB_cons (sndS_sti rfl rfl rfl snd_int (snd_var rfl)) sndB_nil)))))) sndB_nil) (sndB_cons (sndS_asgN pr_cfg rfl rfl rfl (s_ix rfl (so_v rfl) (so_e rfl snd_int))) (sndB_cons (sndS_sti rfl rfl rfl snd_int (s_fdiv (so_v rfl) (so_e rfl (s_max B rfl rfl rfl (so_v rfl) (so_e rfl snd_int))))) (sndB_cons (sndS_ret (s_mod (so_e rfl (s_b1 B rfl rfl rfl (so_v rfl))) (so_e rfl (s_max B rfl rfl rfl (so_v rfl) (so_e rfl snd_int))))) sndB_nil))))
set_option maxHeartbeats 0 in
theorem b12 (B : BltOk (cfgOf P w K mg base (defScope s12) n12 d12.pr k exA)) (F : FtOk (cfgOf P w K mg base (defScope s12) n12 d12.pr k exA) Φ (ft fa fdd) tt) (Lt : LtOk (cfgOf P w K mg base (defScope s12) n12 d12.pr k exA) Φ lt) (W : WX) : SndB (cfgOf P w K mg base (defScope s12) n12 d12.pr k exA) W (defBody s12) (evB Φ (shsOf tt) d12.body) :=
  (sndB_cons (sndS_ife (t_isN (so_v rfl)) (sndB_cons (sndS_ret (s_isN (so_v rfl))) sndB_nil) sndB_nil) (sndB_cons (sndS_ife (sndT_truth rfl (so_e rfl (s_isi B rfl rfl rfl rfl (so_v rfl)))) (sndB_cons (sndS_ife (SndW.t (sw_or1 (sndT_not (sndT_truth rfl (so_e rfl (s_isi B rfl rfl rfl rfl (so_v rfl))))) (t_cmp rfl (so_e rfl (s_b1 B rfl rfl rfl (so_v rfl))) (so_e rfl (s_b1 B rfl rfl rfl (so_v rfl)))))) (sndB_cons (sndS_ret snd_bl) sndB_nil) sndB_nil) (sndB_kill (sndB_cons (sndS_for pr_cfg rfl (ninOf rfl) rfl (sndI_rng1 rfl (B "range" (by decide)) rfl (sa_e rfl rfl (s_b1 B rfl rfl rfl (so_v rfl)) sndA_nil) rfl) (sndB_cons (sndS_ife (sndT_not (sndT_truth rfl (so_e rfl (snd_call (fi := ⟨"_law_same", fa 12, fdd 12, ["actual", "expected"]⟩) F rfl rfl rfl rfl rfl rfl (sa_e rfl rfl (s_ix rfl (so_v rfl) (so_v rfl)) (sa_e rfl rfl (s_ix rfl (so_v rfl) (so_v rfl)) sndA_nil)))))) (sndB_cons (sndS_ret snd_bl) sndB_nil) sndB_nil) (sndB_kill sndB_nil))) (sndB_cons (sndS_ret snd_bl) sndB_nil)))) sndB_nil) (sndB_cons (sndS_ife (sndT_truth rfl (so_e rfl (s_isi B rfl rfl rfl rfl (so_v rfl)))) (sndB_cons (sndS_ret (snd_andN (s_isi B rfl rfl rfl rfl (so_v rfl)) (snd_one (s_cmp rfl (so_v rfl) (so_v rfl))))) sndB_nil) sndB_nil) (sndB_cons (sndS_ife (sndT_truth rfl (so_e rfl (s_isi B rfl rfl rfl rfl (so_v rfl)))) (sndB_cons (sndS_ret (snd_andN (s_isi B rfl rfl rfl rfl (so_v rfl)) (snd_one (s_cmp rfl (so_v rfl) (so_v rfl))))) sndB_nil) sndB_nil) (sndB_cons (sndS_ret (snd_andN (s_isi B rfl rfl rfl rfl (so_v rfl)) (snd_andN (snd_not (s_isi B rfl rfl rfl rfl (so_v rfl))) (snd_one (s_cmp rfl (so_v rfl) (so_v rfl)))))) sndB_nil)))))
set_option maxHeartbeats 0 in
theorem b13 (B : BltOk (cfgOf P w K mg base (defScope s13) n13 d13.pr k exA)) (F : FtOk (cfgOf P w K mg base (defScope s13) n13 d13.pr k exA) Φ (ft fa fdd) tt) (Lt : LtOk (cfgOf P w K mg base (defScope s13) n13 d13.pr k exA) Φ lt) (W : WX) : SndB (cfgOf P w K mg base (defScope s13) n13 d13.pr k exA) W (defBody s13) (evB Φ (shsOf tt) d13.body) :=
  (sndB_cons (sndS_asgN pr_cfg rfl rfl rfl (snd_lst sndA_nil)) (sndB_kill (sndB_cons (sndS_for pr_cfg rfl (ninOf rfl) rfl (sndI_rng1 rfl (B "range" (by decide)) rfl (sa_e rfl rfl (s_add (so_e rfl snd_int) (so_e rfl (snd_call (fi := ⟨"_law_draw", fa 11, fdd 11, ["tape", "many"]⟩) F rfl rfl rfl rfl rfl rfl (sa_b rfl (sa_e rfl rfl snd_int sndA_nil))))) sndA_nil) rfl) (sndB_cons (sndS_ife (t_cmp rfl (so_e rfl (snd_call (fi := ⟨"_law_draw", fa 11, fdd 11, ["tape", "many"]⟩) F rfl rfl rfl rfl rfl rfl (sa_b rfl (sa_e rfl rfl snd_int sndA_nil)))) (so_e rfl snd_int)) (sndB_cons (sndS_expr rfl (s_app rfl rfl rfl (by decide) (sa_e rfl rfl snd_non sndA_nil))) sndB_nil) (sndB_cons (sndS_expr rfl (s_app rfl rfl rfl (by decide) (sa_e rfl rfl (snd_call (fi := ⟨"_law_draw", fa 11, fdd 11, ["tape", "many"]⟩) F rfl rfl rfl rfl rfl rfl (sa_b rfl (sa_e rfl rfl (snd_var rfl) sndA_nil))) sndA_nil))) sndB_nil)) (sndB_kill sndB_nil))) (sndB_cons (sndS_ret (s_b1 B rfl rfl rfl (so_v rfl))) sndB_nil))))
set_option maxHeartbeats 0 in
theorem b14 (B : BltOk (cfgOf P w K mg base (defScope s14) n14 d14.pr k exA)) (F : FtOk (cfgOf P w K mg base (defScope s14) n14 d14.pr k exA) Φ (ft fa fdd) tt) (Lt : LtOk (cfgOf P w K mg base (defScope s14) n14 d14.pr k exA) Φ lt) (W : WX) : SndB (cfgOf P w K mg base (defScope s14) n14 d14.pr k exA) W (defBody s14) (evB Φ (shsOf tt) d14.body) :=
  (sndB_cons (sndS_asgN pr_cfg rfl rfl rfl (s_ix rfl (so_e rfl (snd_lst (snd_ints (ns := [12, 12, 4, 2]) rfl))) (so_e rfl (snd_call (fi := ⟨"_law_draw", fa 11, fdd 11, ["tape", "many"]⟩) F rfl rfl rfl rfl rfl rfl (sa_b rfl (sa_e rfl rfl snd_int sndA_nil)))))) (by exact (sndB_cons (sndS_asgN pr_cfg rfl rfl rfl (snd_lst sndA_nil)) (by exact (sndB_kill (sndB_cons (sndS_for pr_cfg rfl (ninOf rfl) rfl (sndI_rng1 rfl (B "range" (by decide)) rfl (sa_e rfl rfl (s_add (so_e rfl snd_int) (so_e rfl (snd_call (fi := ⟨"_law_draw", fa 11, fdd 11, ["tape", "many"]⟩) F rfl rfl rfl rfl rfl rfl (sa_b rfl (sa_e rfl rfl (snd_var rfl) sndA_nil))))) sndA_nil) rfl) (sndB_cons (sndS_expr rfl (s_app rfl rfl rfl (by decide) (sa_e rfl rfl (snd_call (fi := ⟨"_law_holders", fa 13, fdd 13, ["tape", "top"]⟩) F rfl rfl rfl rfl rfl rfl (sa_b rfl (sa_e rfl rfl (snd_var rfl) sndA_nil))) sndA_nil))) (sndB_kill sndB_nil))) (by exact (sndB_cons (sndS_ret (s_b1 B rfl rfl rfl (so_v rfl))) (by exact sndB_nil)))))))))
set_option maxHeartbeats 0 in
theorem b15 (B : BltOk (cfgOf P w K mg base (defScope s15) n15 d15.pr k exA)) (F : FtOk (cfgOf P w K mg base (defScope s15) n15 d15.pr k exA) Φ (ft fa fdd) tt) (Lt : LtOk (cfgOf P w K mg base (defScope s15) n15 d15.pr k exA) Φ lt) (W : WX) : SndB (cfgOf P w K mg base (defScope s15) n15 d15.pr k exA) W (defBody s15) (evB Φ (shsOf tt) d15.body) :=
  (sndB_cons (sndS_ret (s_join rfl rfl rfl (so_e rfl snd_str) (so_e rfl (snd_comp rfl rfl (inOf rfl) rfl (sndI_rng1 rfl (B "range" (by decide)) rfl (sa_e rfl rfl (snd_var rfl) sndA_nil) rfl) sndC_nil (s_ix rfl (so_e rfl snd_str) (so_e rfl (snd_call (fi := ⟨"_law_draw", fa 11, fdd 11, ["tape", "many"]⟩) (F.blk _) rfl rfl rfl rfl rfl rfl (sa_b rfl (sa_e rfl rfl snd_int sndA_nil))))))))) sndB_nil)
set_option maxHeartbeats 0 in
theorem b16 (B : BltOk (cfgOf P w K mg base (defScope s16) n16 d16.pr k exA)) (F : FtOk (cfgOf P w K mg base (defScope s16) n16 d16.pr k exA) Φ (ft fa fdd) tt) (Lt : LtOk (cfgOf P w K mg base (defScope s16) n16 d16.pr k exA) Φ lt) (W : WX) : SndB (cfgOf P w K mg base (defScope s16) n16 d16.pr k exA) W (defBody s16) (evB Φ (shsOf tt) d16.body) :=
  (sndB_cons (sndS_ife (t_cmp rfl (so_v rfl) (so_e rfl (s_b1 B rfl rfl rfl (so_v rfl)))) (sndB_cons (sndS_ret (snd_tup (snd_ints (ns := [0, 0, 0, 0]) rfl))) (by exact sndB_nil)) sndB_nil) (by exact (sndB_cons (sndS_asgN pr_cfg rfl rfl rfl (snd_lst (sa_e rfl rfl snd_int (sa_e rfl rfl snd_int (sa_e rfl rfl snd_int sndA_nil))))) (by exact (sndB_kill (sndB_cons (sndS_for pr_cfg rfl (ninOf rfl) rfl (sndI_seq rfl (s_ix rfl (so_v rfl) (so_v rfl))) (sndB_cons (sndS_ife (SndW.t (sw_and (t_notN (so_v rfl)) (sw_and1 (t_cmp rfl (so_v rfl) (so_e rfl (s_b1 B rfl rfl rfl (so_v rfl)))) (t_cmp rfl (so_e rfl (s_ix rfl (so_v rfl) (so_v rfl))) (so_e rfl snd_str))))) (sndB_cons (sndS_asgN pr_cfg rfl rfl rfl (s_sidx rfl rfl rfl (so_e rfl snd_str) (so_e rfl (s_ix rfl (so_v rfl) (so_v rfl))))) (sndB_cons (sndS_sti rfl rfl rfl (snd_var rfl) (s_add (so_e rfl (s_ix rfl (so_v rfl) (so_v rfl))) (so_e rfl snd_int))) sndB_nil)) sndB_nil) (sndB_kill sndB_nil))) (by exact (sndB_cons (sndS_ret (snd_tup (sa_e rfl rfl (s_b1 B rfl rfl rfl (so_e rfl (s_ix rfl (so_v rfl) (so_v rfl)))) (sa_e rfl rfl (s_ix rfl (so_v rfl) (so_e rfl snd_int)) (sa_e rfl rfl (s_ix rfl (so_v rfl) (so_e rfl snd_int)) (sa_e rfl rfl (s_ix rfl (so_v rfl) (so_e rfl snd_int)) sndA_nil)))))) (by exact sndB_nil)))))))))
set_option maxHeartbeats 0 in
theorem b17 (B : BltOk (cfgOf P w K mg base (defScope s17) n17 d17.pr k exA)) (F : FtOk (cfgOf P w K mg base (defScope s17) n17 d17.pr k exA) Φ (ft fa fdd) tt) (Lt : LtOk (cfgOf P w K mg base (defScope s17) n17 d17.pr k exA) Φ lt) (W : WX) : SndB (cfgOf P w K mg base (defScope s17) n17 d17.pr k exA) W (defBody s17) (evB Φ (shsOf tt) d17.body) :=
  (sndB_cons (sndS_asgN pr_cfg rfl rfl rfl (s_ix rfl (so_e rfl (snd_lst (sa_e rfl rfl snd_int (sa_e rfl rfl snd_int (sa_e rfl rfl snd_int (sa_e rfl rfl (snd_call (fi := ⟨"_law_draw", fa 11, fdd 11, ["tape", "many"]⟩) F rfl rfl rfl rfl rfl rfl (sa_b rfl (sa_e rfl rfl snd_int sndA_nil))) sndA_nil)))))) (so_e rfl (snd_call (fi := ⟨"_law_draw", fa 11, fdd 11, ["tape", "many"]⟩) F rfl rfl rfl rfl rfl rfl (sa_b rfl (sa_e rfl rfl snd_int sndA_nil)))))) (by exact (sndB_cons (sndS_ret (s_b1 B rfl rfl rfl (so_e rfl (snd_comp rfl rfl (inOf rfl) rfl (sndI_rng1 rfl (B "range" (by decide)) rfl (sa_e rfl rfl (snd_var rfl) sndA_nil) rfl) sndC_nil (snd_call (fi := ⟨"_law_draw", fa 11, fdd 11, ["tape", "many"]⟩) (F.blk _) rfl rfl rfl rfl rfl rfl (sa_b rfl (sa_e rfl rfl (s_ix rfl (so_e rfl (snd_lst (snd_ints (ns := [3, 14, 14, 1001]) rfl))) (so_e rfl (snd_call (fi := ⟨"_law_draw", fa 11, fdd 11, ["tape", "many"]⟩) (F.blk _) rfl rfl rfl rfl rfl rfl (sa_b rfl (sa_e rfl rfl snd_int sndA_nil))))) sndA_nil))))))) (by exact sndB_nil))))
set_option maxHeartbeats 0 in
theorem b18 (B : BltOk (cfgOf P w K mg base (defScope s18) n18 d18.pr k exA)) (F : FtOk (cfgOf P w K mg base (defScope s18) n18 d18.pr k exA) Φ (ft fa fdd) tt) (Lt : LtOk (cfgOf P w K mg base (defScope s18) n18 d18.pr k exA) Φ lt) (W : WX) : SndB (cfgOf P w K mg base (defScope s18) n18 d18.pr k exA) W (defBody s18) (evB Φ (shsOf tt) d18.body) :=
  (sndB_cons (sndS_ret (s_ix rfl (so_e rfl (snd_lst (sa_e rfl rfl snd_non (sa_e rfl rfl (snd_call (fi := ⟨"_law_draw", fa 11, fdd 11, ["tape", "many"]⟩) F rfl rfl rfl rfl rfl rfl (sa_b rfl (sa_e rfl rfl snd_int sndA_nil))) sndA_nil)))) (so_e rfl (s_b1 B rfl rfl rfl (so_e rfl (s_cmp rfl (so_e rfl (snd_call (fi := ⟨"_law_draw", fa 11, fdd 11, ["tape", "many"]⟩) F rfl rfl rfl rfl rfl rfl (sa_b rfl (sa_e rfl rfl snd_int sndA_nil)))) (so_e rfl snd_int))))))) sndB_nil)
set_option maxHeartbeats 0 in
theorem b19 (B : BltOk (cfgOf P w K mg base (defScope s19) n19 d19.pr k exA)) (F : FtOk (cfgOf P w K mg base (defScope s19) n19 d19.pr k exA) Φ (ft fa fdd) tt) (Lt : LtOk (cfgOf P w K mg base (defScope s19) n19 d19.pr k exA) Φ lt) (W : WX) : SndB (cfgOf P w K mg base (defScope s19) n19 d19.pr k exA) W (defBody s19) (evB Φ (shsOf tt) d19.body) :=
  (sndB_cons (sndS_asgN pr_cfg rfl rfl rfl (snd_call (fi := ⟨"_law_draw", fa 11, fdd 11, ["tape", "many"]⟩) F rfl rfl rfl rfl rfl rfl (sa_b rfl (sa_e rfl rfl snd_int sndA_nil)))) (by exact (sndB_cons (sndS_ife (t_cmp rfl (so_v rfl) (so_e rfl snd_int)) (sndB_cons (sndS_ret (snd_tup (sa_e rfl rfl snd_str (sa_e rfl rfl (snd_call (fi := ⟨"_law_draw", fa 11, fdd 11, ["tape", "many"]⟩) F rfl rfl rfl rfl rfl rfl (sa_b rfl (sa_e rfl rfl (s_ix rfl (so_e rfl (snd_lst (sa_e rfl rfl snd_int (sa_e rfl rfl snd_int sndA_nil)))) (so_e rfl (snd_call (fi := ⟨"_law_draw", fa 11, fdd 11, ["tape", "many"]⟩) F rfl rfl rfl rfl rfl rfl (sa_b rfl (sa_e rfl rfl snd_int sndA_nil))))) sndA_nil))) sndA_nil)))) sndB_nil) sndB_nil) (by exact (sndB_cons (sndS_ife (t_cmp rfl (so_v rfl) (so_e rfl snd_int)) (sndB_cons (sndS_ret (s_ix rfl (so_e rfl (snd_lst (snd_ints (ns := [0, 1, 999, 1000]) rfl))) (so_e rfl (snd_call (fi := ⟨"_law_draw", fa 11, fdd 11, ["tape", "many"]⟩) F rfl rfl rfl rfl rfl rfl (sa_b rfl (sa_e rfl rfl snd_int sndA_nil)))))) (by exact sndB_nil)) sndB_nil) (by exact (sndB_cons (sndS_ife (t_cmp rfl (so_v rfl) (so_e rfl snd_int)) (sndB_cons (sndS_ret (snd_call (fi := ⟨"_law_draw", fa 11, fdd 11, ["tape", "many"]⟩) F rfl rfl rfl rfl rfl rfl (sa_b rfl (sa_e rfl rfl snd_int sndA_nil)))) sndB_nil) sndB_nil) (by exact (sndB_cons (sndS_ret (snd_call (fi := ⟨"_law_draw", fa 11, fdd 11, ["tape", "many"]⟩) F rfl rfl rfl rfl rfl rfl (sa_b rfl (sa_e rfl rfl snd_int sndA_nil)))) (by exact sndB_nil))))))))))
set_option maxHeartbeats 0 in
theorem b20 (B : BltOk (cfgOf P w K mg base (defScope s20) n20 d20.pr k exA)) (F : FtOk (cfgOf P w K mg base (defScope s20) n20 d20.pr k exA) Φ (ft fa fdd) tt) (Lt : LtOk (cfgOf P w K mg base (defScope s20) n20 d20.pr k exA) Φ lt) (W : WX) : SndB (cfgOf P w K mg base (defScope s20) n20 d20.pr k exA) W (defBody s20) (evB Φ (shsOf tt) d20.body) :=
  (sndB_cons (sndS_asgN pr_cfg rfl rfl rfl (s_ix rfl (so_v rfl) (so_e rfl (snd_call (fi := ⟨"_law_draw", fa 11, fdd 11, ["tape", "many"]⟩) F rfl rfl rfl rfl rfl rfl (sa_b rfl (sa_e rfl rfl (s_b1 B rfl rfl rfl (so_v rfl)) sndA_nil)))))) (sndB_cons (sndS_asgN pr_cfg rfl rfl rfl (s_ix rfl (so_v rfl) (so_e rfl (snd_call (fi := ⟨"_law_draw", fa 11, fdd 11, ["tape", "many"]⟩) F rfl rfl rfl rfl rfl rfl (sa_b rfl (sa_e rfl rfl (s_b1 B rfl rfl rfl (so_v rfl)) sndA_nil)))))) (sndB_cons (sndS_ife (t_cmp rfl (so_v rfl) (so_e rfl snd_str)) (sndB_cons (sndS_ret (snd_tup (sa_e rfl rfl snd_str sndA_nil))) sndB_nil) sndB_nil) (sndB_cons (sndS_ife (SndW.t (sw_or1 (t_cmp rfl (so_v rfl) (so_e rfl snd_str)) (t_cmp rfl (so_v rfl) (so_e rfl snd_str)))) (sndB_cons (sndS_ret (snd_tup (sa_e rfl rfl (snd_var rfl) (sa_e rfl rfl (snd_var rfl) (sa_e rfl rfl (snd_call (fi := ⟨"_law_threshold", fa 19, fdd 19, ["tape"]⟩) F rfl rfl rfl rfl rfl rfl (sa_b rfl sndA_nil)) sndA_nil))))) sndB_nil) sndB_nil) (sndB_cons (sndS_asgN pr_cfg rfl rfl rfl (s_ix rfl (so_e rfl (snd_lst (sa_e rfl rfl snd_str (sa_e rfl rfl snd_str (sa_e rfl rfl snd_str sndA_nil))))) (so_e rfl (snd_call (fi := ⟨"_law_draw", fa 11, fdd 11, ["tape", "many"]⟩) F rfl rfl rfl rfl rfl rfl (sa_b rfl (sa_e rfl rfl snd_int sndA_nil)))))) (sndB_cons (sndS_ife (t_cmp rfl (so_v rfl) (so_e rfl snd_str)) (sndB_cons (sndS_ret (snd_tup (sa_e rfl rfl snd_str (sa_e rfl rfl (snd_var rfl) (sa_e rfl rfl (snd_var rfl) sndA_nil))))) sndB_nil) sndB_nil) (sndB_cons (sndS_asgN pr_cfg rfl rfl rfl (s_add (so_e rfl snd_int) (so_e rfl (snd_call (fi := ⟨"_law_draw", fa 11, fdd 11, ["tape", "many"]⟩) F rfl rfl rfl rfl rfl rfl (sa_b rfl (sa_e rfl rfl snd_int sndA_nil)))))) (sndB_cons (sndS_ret (snd_tup (sa_e rfl rfl snd_str (sa_e rfl rfl (snd_var rfl) (sa_e rfl rfl (s_add (so_e rfl snd_int) (so_e rfl (snd_call (fi := ⟨"_law_draw", fa 11, fdd 11, ["tape", "many"]⟩) F rfl rfl rfl rfl rfl rfl (sa_b rfl (sa_e rfl rfl (snd_var rfl) sndA_nil))))) (sa_e rfl rfl (snd_var rfl) (sa_e rfl rfl (snd_var rfl) sndA_nil))))))) sndB_nil))))))))
set_option maxHeartbeats 0 in
theorem b21 (B : BltOk (cfgOf P w K mg base (defScope s21) n21 d21.pr k exA)) (F : FtOk (cfgOf P w K mg base (defScope s21) n21 d21.pr k exA) Φ (ft fa fdd) tt) (Lt : LtOk (cfgOf P w K mg base (defScope s21) n21 d21.pr k exA) Φ lt) (W : WX) : SndB (cfgOf P w K mg base (defScope s21) n21 d21.pr k exA) W (defBody s21) (evB Φ (shsOf tt) d21.body) :=
  (sndB_cons (sndS_asgN pr_cfg rfl rfl rfl (snd_call (fi := ⟨"_law_draw", fa 11, fdd 11, ["tape", "many"]⟩) F rfl rfl rfl rfl rfl rfl (sa_b rfl (sa_e rfl rfl snd_int sndA_nil)))) (sndB_cons (sndS_ife (SndW.t (sw_and1 (t_cmp rfl (so_v rfl) (so_e rfl snd_int)) (t_cmp rfl (so_v rfl) (so_e rfl snd_int)))) (sndB_cons (sndS_asgN pr_cfg rfl rfl rfl (snd_call (fi := ⟨"_law_rule", fa 21, fdd 21, ["tape", "chambers", "kinds", "depth"]⟩) F rfl rfl rfl rfl rfl rfl (sa_b rfl (sa_e rfl rfl (snd_var rfl) (sa_e rfl rfl (snd_var rfl) (sa_e rfl rfl (s_sub (so_v rfl) (so_e rfl snd_int)) sndA_nil)))))) (sndB_cons (sndS_ret (snd_tup (sa_e rfl rfl (s_ix rfl (so_e rfl (snd_lst (sa_e rfl rfl snd_str (sa_e rfl rfl snd_str (sa_e rfl rfl snd_str (sa_e rfl rfl snd_str sndA_nil)))))) (so_v rfl)) (sa_e rfl rfl (snd_var rfl) (sa_e rfl rfl (snd_call (fi := ⟨"_law_rule", fa 21, fdd 21, ["tape", "chambers", "kinds", "depth"]⟩) F rfl rfl rfl rfl rfl rfl (sa_b rfl (sa_e rfl rfl (snd_var rfl) (sa_e rfl rfl (snd_var rfl) (sa_e rfl rfl (s_sub (so_v rfl) (so_e rfl snd_int)) sndA_nil))))) sndA_nil))))) sndB_nil)) sndB_nil) (sndB_cons (sndS_ret (snd_call (fi := ⟨"_law_simple", fa 20, fdd 20, ["tape", "chambers", "kinds"]⟩) F rfl rfl rfl rfl rfl rfl (sa_b rfl (sa_e rfl rfl (snd_var rfl) (sa_e rfl rfl (snd_var rfl) sndA_nil))))) sndB_nil)))
set_option maxHeartbeats 0 in
theorem b22 (B : BltOk (cfgOf P w K mg base (defScope s22) n22 d22.pr k exA)) (F : FtOk (cfgOf P w K mg base (defScope s22) n22 d22.pr k exA) Φ (ft fa fdd) tt) (Lt : LtOk (cfgOf P w K mg base (defScope s22) n22 d22.pr k exA) Φ lt) (W : WX) : SndB (cfgOf P w K mg base (defScope s22) n22 d22.pr k exA) W (defBody s22) (evB Φ (shsOf tt) d22.body) :=
  (sndB_cons (sndS_ife (sndT_truth rfl (so_e rfl (s_isi B rfl rfl rfl rfl (so_v rfl)))) (sndB_cons (sndS_ife (t_cmp rfl (so_e rfl (s_ix rfl (so_v rfl) (so_e rfl snd_int))) (so_e rfl (s_b1 B rfl rfl rfl (so_v rfl)))) (sndB_cons (sndS_ret (s_ix rfl (so_v rfl) (so_e rfl (s_ix rfl (so_v rfl) (so_e rfl snd_int))))) sndB_nil) sndB_nil) (sndB_cons (sndS_ret snd_int) sndB_nil)) sndB_nil) (sndB_cons (sndS_ret (snd_mov rfl)) sndB_nil))
set_option maxHeartbeats 0 in
theorem b23 (B : BltOk (cfgOf P w K mg base (defScope s23) n23 d23.pr k exA)) (F : FtOk (cfgOf P w K mg base (defScope s23) n23 d23.pr k exA) Φ (ft fa fdd) tt) (Lt : LtOk (cfgOf P w K mg base (defScope s23) n23 d23.pr k exA) Φ lt) (W : WX) : SndB (cfgOf P w K mg base (defScope s23) n23 d23.pr k exA) W (defBody s23) (evB Φ (shsOf tt) d23.body) :=
  (sndB_cons (sndS_asgN pr_cfg rfl rfl rfl (s_add (so_e rfl (s_add (so_e rfl (s_ix rfl (so_v rfl) (so_e rfl snd_int))) (so_e rfl (s_ix rfl (so_v rfl) (so_e rfl snd_int))))) (so_e rfl (s_ix rfl (so_v rfl) (so_e rfl snd_int))))) (sndB_cons (sndS_ife (t_cmp rfl (so_e rfl (s_ix rfl (so_v rfl) (so_e rfl snd_int))) (so_e rfl snd_str)) (sndB_cons (sndS_ret (s_cmp rfl (so_e rfl (s_ix rfl (so_v rfl) (so_e rfl snd_int))) (so_e rfl (snd_call (fi := ⟨"_law_limit", fa 22, fdd 22, ["threshold", "limits"]⟩) F rfl rfl rfl rfl rfl rfl (sa_e rfl rfl (s_ix rfl (so_v rfl) (so_e rfl snd_int)) (sa_e rfl rfl (snd_var rfl) sndA_nil)))))) sndB_nil) sndB_nil) (sndB_cons (sndS_ife (t_cmp rfl (so_e rfl (s_ix rfl (so_v rfl) (so_e rfl snd_int))) (so_e rfl snd_str)) (sndB_cons (sndS_ret (s_cmp rfl (so_v rfl) (so_e rfl (snd_call (fi := ⟨"_law_limit", fa 22, fdd 22, ["threshold", "limits"]⟩) F rfl rfl rfl rfl rfl rfl (sa_e rfl rfl (s_ix rfl (so_v rfl) (so_e rfl snd_int)) (sa_e rfl rfl (snd_var rfl) sndA_nil)))))) sndB_nil) sndB_nil) (sndB_cons (sndS_asgN pr_cfg rfl rfl rfl (s_ix rfl (so_v rfl) (so_e rfl snd_int))) (sndB_cons (sndS_ife (t_cmp rfl (so_e rfl (s_ix rfl (so_v rfl) (so_e rfl (s_neg (so_e rfl snd_int))))) (so_e rfl snd_str)) (sndB_cons (sndS_asgN pr_cfg rfl rfl rfl (snd_var rfl)) (sndB_kill sndB_nil)) (sndB_kill sndB_nil)) (sndB_cons (sndS_ife (t_cmp rfl (so_e rfl (s_ix rfl (so_v rfl) (so_e rfl (s_neg (so_e rfl snd_int))))) (so_e rfl snd_str)) (sndB_cons (sndS_asgN pr_cfg rfl rfl rfl (s_add (so_e rfl (s_ix rfl (so_v rfl) (so_e rfl snd_int))) (so_e rfl (s_ix rfl (so_v rfl) (so_e rfl snd_int))))) (sndB_kill sndB_nil)) (sndB_kill sndB_nil)) (sndB_cons (sndS_ife (t_cmp rfl (so_e rfl (s_ix rfl (so_v rfl) (so_e rfl snd_int))) (so_e rfl snd_str)) (sndB_cons (sndS_ret (s_cmp rfl (so_e rfl (s_mul (so_e rfl snd_int) (so_e rfl (s_ix rfl (so_v rfl) (so_e rfl snd_int))))) (so_v rfl))) sndB_nil) sndB_nil) (sndB_cons (sndS_ret (s_cmp rfl (so_e rfl (s_mul (so_e rfl (s_ix rfl (so_v rfl) (so_e rfl snd_int))) (so_e rfl (s_ix rfl (so_v rfl) (so_e rfl snd_int))))) (so_e rfl (s_mul (so_e rfl (s_ix rfl (so_v rfl) (so_e rfl snd_int))) (so_v rfl))))) sndB_nil))))))))
set_option maxHeartbeats 0 in
theorem b24 (B : BltOk (cfgOf P w K mg base (defScope s24) n24 d24.pr k exA)) (F : FtOk (cfgOf P w K mg base (defScope s24) n24 d24.pr k exA) Φ (ft fa fdd) tt) (Lt : LtOk (cfgOf P w K mg base (defScope s24) n24 d24.pr k exA) Φ lt) (W : WX) : SndB (cfgOf P w K mg base (defScope s24) n24 d24.pr k exA) W (defBody s24) (evB Φ (shsOf tt) d24.body) :=
  (sndB_cons (sndS_ife (t_cmp rfl (so_e rfl (s_ix rfl (so_v rfl) (so_e rfl snd_int))) (so_e rfl snd_str)) (sndB_cons (sndS_ret (snd_andN (s_notN (so_v rfl)) (snd_andN (s_cmp rfl (so_v rfl) (so_e rfl (s_b1 B rfl rfl rfl (so_v rfl)))) (snd_one (s_cmp rfl (so_e rfl (s_ix rfl (so_v rfl) (so_v rfl))) (so_e rfl snd_str)))))) sndB_nil) sndB_nil) (sndB_cons (sndS_ife (SndW.t (sw_or1 (t_cmp rfl (so_e rfl (s_ix rfl (so_v rfl) (so_e rfl snd_int))) (so_e rfl snd_str)) (t_cmp rfl (so_e rfl (s_ix rfl (so_v rfl) (so_e rfl snd_int))) (so_e rfl snd_str)))) (sndB_cons (sndS_asgN pr_cfg rfl rfl rfl (snd_call (fi := ⟨"_law_passes", fa 24, fdd 24, ["rule", "seats", "roll", "limits", "leader"]⟩) F rfl rfl rfl rfl rfl rfl (sa_e rfl rfl (s_ix rfl (so_v rfl) (so_e rfl snd_int)) (sa_e rfl rfl (snd_var rfl) (sa_e rfl rfl (snd_var rfl) (sa_e rfl rfl (snd_var rfl) (sa_e rfl rfl (snd_var rfl) sndA_nil))))))) (sndB_cons (sndS_asgN pr_cfg rfl rfl rfl (snd_call (fi := ⟨"_law_passes", fa 24, fdd 24, ["rule", "seats", "roll", "limits", "leader"]⟩) F rfl rfl rfl rfl rfl rfl (sa_e rfl rfl (s_ix rfl (so_v rfl) (so_e rfl snd_int)) (sa_e rfl rfl (snd_var rfl) (sa_e rfl rfl (snd_var rfl) (sa_e rfl rfl (snd_var rfl) (sa_e rfl rfl (snd_var rfl) sndA_nil))))))) (sndB_cons (sndS_ife (t_cmp rfl (so_e rfl (s_ix rfl (so_v rfl) (so_e rfl snd_int))) (so_e rfl snd_str)) (sndB_cons (sndS_ret (snd_andN (snd_var rfl) (snd_one (snd_var rfl)))) sndB_nil) sndB_nil) (sndB_cons (sndS_ret (snd_orN (snd_var rfl) (snd_one (snd_var rfl)))) sndB_nil)))) sndB_nil) (sndB_cons (sndS_ret (snd_call (fi := ⟨"_law_by_counts", fa 23, fdd 23, ["rule", "counts", "limits"]⟩) F rfl rfl rfl rfl rfl rfl (sa_e rfl rfl (snd_var rfl) (sa_e rfl rfl (snd_call (fi := ⟨"_law_tally", fa 16, fdd 16, ["seats", "roll", "chamber"]⟩) F rfl rfl rfl rfl rfl rfl (sa_e rfl rfl (snd_var rfl) (sa_e rfl rfl (snd_var rfl) (sa_e rfl rfl (s_ix rfl (so_v rfl) (so_e rfl snd_int)) sndA_nil)))) (sa_e rfl rfl (snd_var rfl) sndA_nil))))) sndB_nil)))
set_option maxHeartbeats 0 in
theorem b25 (B : BltOk (cfgOf P w K mg base (defScope s25) n25 d25.pr k exA)) (F : FtOk (cfgOf P w K mg base (defScope s25) n25 d25.pr k exA) Φ (ft fa fdd) tt) (Lt : LtOk (cfgOf P w K mg base (defScope s25) n25 d25.pr k exA) Φ lt) (W : WX) : SndB (cfgOf P w K mg base (defScope s25) n25 d25.pr k exA) W (defBody s25) (evB Φ (shsOf tt) d25.body) :=
  (sndB_cons (sndS_ife (SndW.t (sw_or1 (t_cmp rfl (so_e rfl (s_ix rfl (so_v rfl) (so_e rfl snd_int))) (so_e rfl snd_str)) (t_cmp rfl (so_e rfl (s_ix rfl (so_v rfl) (so_e rfl snd_int))) (so_e rfl snd_str)))) (sndB_cons (sndS_ret (s_add (so_e rfl (snd_call (fi := ⟨"_law_leaves", fa 25, fdd 25, ["rule"]⟩) F rfl rfl rfl rfl rfl rfl (sa_e rfl rfl (s_ix rfl (so_v rfl) (so_e rfl snd_int)) sndA_nil))) (so_e rfl (snd_call (fi := ⟨"_law_leaves", fa 25, fdd 25, ["rule"]⟩) F rfl rfl rfl rfl rfl rfl (sa_e rfl rfl (s_ix rfl (so_v rfl) (so_e rfl snd_int)) sndA_nil))))) sndB_nil) sndB_nil) (sndB_cons (sndS_ret (snd_lst (sa_e rfl rfl (snd_var rfl) sndA_nil))) sndB_nil))
set_option maxHeartbeats 0 in
theorem b26 (B : BltOk (cfgOf P w K mg base (defScope s26) n26 d26.pr k exA)) (F : FtOk (cfgOf P w K mg base (defScope s26) n26 d26.pr k exA) Φ (ft fa fdd) tt) (Lt : LtOk (cfgOf P w K mg base (defScope s26) n26 d26.pr k exA) Φ lt) (W : WX) : SndB (cfgOf P w K mg base (defScope s26) n26 d26.pr k exA) W (defBody s26) (evB Φ (shsOf tt) d26.body) :=
  (sndB_cons (sndS_ret (s_srtSet B rfl rfl rfl (so_e rfl (snd_comp rfl rfl (inOf rfl) rfl (sndI_seq rfl (snd_call (fi := ⟨"_law_leaves", fa 25, fdd 25, ["rule"]⟩) F rfl rfl rfl rfl rfl rfl (sa_e rfl rfl (snd_var rfl) sndA_nil))) (sndC_one (t_cmp rfl (so_e rfl (s_ix rfl (so_v rfl) (so_e rfl snd_int))) (so_e rfl snd_str))) (s_ix rfl (so_v rfl) (so_e rfl snd_int)))))) sndB_nil)
set_option maxHeartbeats 0 in
theorem b27 (B : BltOk (cfgOf P w K mg base (defScope s27) n27 d27.pr k exA)) (F : FtOk (cfgOf P w K mg base (defScope s27) n27 d27.pr k exA) Φ (ft fa fdd) tt) (Lt : LtOk (cfgOf P w K mg base (defScope s27) n27 d27.pr k exA) Φ lt) (W : WX) : SndB (cfgOf P w K mg base (defScope s27) n27 d27.pr k exA) W (defBody s27) (evB Φ (shsOf tt) d27.body) :=
  (sndB_cons (sndS_asgN pr_cfg rfl rfl rfl (snd_lst sndA_nil)) (sndB_kill (sndB_cons (sndS_for pr_cfg rfl (ninOf rfl) rfl (sndI_seq rfl (snd_call (fi := ⟨"_law_leaves", fa 25, fdd 25, ["rule"]⟩) F rfl rfl rfl rfl rfl rfl (sa_e rfl rfl (snd_var rfl) sndA_nil))) (sndB_cons (sndS_ife (SndW.t (sw_and1 (t_inn rfl (so_e rfl (s_ix rfl (so_v rfl) (so_e rfl snd_int))) (so_e rfl (snd_lst (sa_e rfl rfl snd_str (sa_e rfl rfl snd_str sndA_nil))))) (sndT_truth rfl (so_e rfl (s_isi B rfl rfl rfl rfl (so_e rfl (s_ix rfl (so_v rfl) (so_e rfl snd_int)))))))) (sndB_cons (sndS_expr rfl (s_app rfl rfl rfl (by decide) (sa_e rfl rfl (s_ix rfl (so_e rfl (s_ix rfl (so_v rfl) (so_e rfl snd_int))) (so_e rfl snd_int)) sndA_nil))) sndB_nil) sndB_nil) (sndB_kill sndB_nil))) (sndB_cons (sndS_ret (s_srtSet B rfl rfl rfl (so_v rfl))) sndB_nil))))
set_option maxHeartbeats 0 in
theorem b28 (B : BltOk (cfgOf P w K mg base (defScope s28) n28 d28.pr k exA)) (F : FtOk (cfgOf P w K mg base (defScope s28) n28 d28.pr k exA) Φ (ft fa fdd) tt) (Lt : LtOk (cfgOf P w K mg base (defScope s28) n28 d28.pr k exA) Φ lt) (W : WX) : SndB (cfgOf P w K mg base (defScope s28) n28 d28.pr k exA) W (defBody s28) (evB Φ (shsOf tt) d28.body) :=
  (sndB_cons (sndS_asgN pr_cfg rfl rfl rfl (snd_call (fi := ⟨"_law_draw", fa 11, fdd 11, ["tape", "many"]⟩) F rfl rfl rfl rfl rfl rfl (sa_b rfl (sa_e rfl rfl snd_int sndA_nil)))) (sndB_kill (sndB_cons (sndS_for pr_cfg rfl (ninOf rfl) rfl (sndI_seq rfl (snd_var rfl)) (sndB_cons (sndS_ife (SndW.t (sw_and1 (t_cmp rfl (so_v rfl) (so_e rfl (s_b1 B rfl rfl rfl (so_v rfl)))) (t_cmp rfl (so_e rfl (s_ix rfl (so_v rfl) (so_v rfl))) (so_e rfl snd_int)))) (sndB_cons (sndS_asgN pr_cfg rfl rfl rfl (s_max B rfl rfl rfl (so_v rfl) (so_e rfl (s_add (so_v rfl) (so_e rfl snd_int))))) sndB_nil) sndB_nil) (sndB_kill sndB_nil))) (sndB_cons (sndS_asgN pr_cfg rfl rfl rfl (snd_lst sndA_nil)) (sndB_kill (sndB_cons (sndS_for pr_cfg rfl (ninOf rfl) rfl (sndI_rng1 rfl (B "range" (by decide)) rfl (sa_e rfl rfl (snd_var rfl) sndA_nil) rfl) (sndB_cons (sndS_asgN pr_cfg rfl rfl rfl (snd_call (fi := ⟨"_law_draw", fa 11, fdd 11, ["tape", "many"]⟩) F rfl rfl rfl rfl rfl rfl (sa_b rfl (sa_e rfl rfl snd_int sndA_nil)))) (sndB_cons (sndS_ife (t_inn rfl (so_v rfl) (so_v rfl)) (sndB_cons (sndS_asgN pr_cfg rfl rfl rfl snd_int) (sndB_cons (sndS_ife (t_cmp rfl (so_v rfl) (so_e rfl (s_b1 B rfl rfl rfl (so_v rfl)))) (sndB_cons (sndS_asgN pr_cfg rfl rfl rfl (s_ix rfl (so_v rfl) (so_v rfl))) sndB_nil) sndB_nil) (sndB_kill sndB_nil))) (sndB_kill sndB_nil)) (sndB_cons (sndS_expr rfl (s_app rfl rfl rfl (by decide) (sa_e rfl rfl (snd_var rfl) sndA_nil))) (sndB_kill sndB_nil))))) (sndB_cons (sndS_ret (s_b1 B rfl rfl rfl (so_v rfl))) sndB_nil)))))))
set_option maxHeartbeats 0 in
theorem b29 (B : BltOk (cfgOf P w K mg base (defScope s29) n29 d29.pr k exA)) (F : FtOk (cfgOf P w K mg base (defScope s29) n29 d29.pr k exA) Φ (ft fa fdd) tt) (Lt : LtOk (cfgOf P w K mg base (defScope s29) n29 d29.pr k exA) Φ lt) (W : WX) : SndB (cfgOf P w K mg base (defScope s29) n29 d29.pr k exA) W (defBody s29) (evB Φ (shsOf tt) d29.body) :=
  (sndB_cons (sndS_asgN pr_cfg rfl rfl rfl (snd_call (fi := ⟨"_law_tape", fa 10, fdd 10, ["script"]⟩) F rfl rfl rfl rfl rfl rfl (sa_e rfl rfl (snd_var rfl) sndA_nil))) (by exact (sndB_cons (sndS_asgN pr_cfg rfl rfl rfl (snd_call (fi := ⟨"_law_rule", fa 21, fdd 21, ["tape", "chambers", "kinds", "depth"]⟩) F rfl rfl rfl rfl rfl rfl (sa_b rfl (sa_e rfl rfl (snd_lst (snd_ints (ns := [0, 0, 1, 2, 3]) rfl)) (sa_e rfl rfl (snd_lst (sa_e rfl rfl snd_str (sa_e rfl rfl snd_str (sa_e rfl rfl snd_str (sa_e rfl rfl snd_str (sa_e rfl rfl snd_str (sa_e rfl rfl snd_str sndA_nil))))))) (sa_e rfl rfl snd_int sndA_nil)))))) (by exact (sndB_cons (sndS_asgN pr_cfg rfl rfl rfl (snd_call (fi := ⟨"_law_seats", fa 14, fdd 14, ["tape", "most"]⟩) F rfl rfl rfl rfl rfl rfl (sa_b rfl (sa_e rfl rfl snd_int sndA_nil)))) (by exact (sndB_cons (sndS_asgN pr_cfg rfl rfl rfl (snd_call (fi := ⟨"_law_roll", fa 15, fdd 15, ["tape", "many"]⟩) F rfl rfl rfl rfl rfl rfl (sa_b rfl (sa_e rfl rfl (snd_call (fi := ⟨"_law_draw", fa 11, fdd 11, ["tape", "many"]⟩) F rfl rfl rfl rfl rfl rfl (sa_b rfl (sa_e rfl rfl snd_int sndA_nil))) sndA_nil)))) (by exact (sndB_cons (sndS_asgN pr_cfg rfl rfl rfl (snd_call (fi := ⟨"_law_limits", fa 17, fdd 17, ["tape"]⟩) F rfl rfl rfl rfl rfl rfl (sa_b rfl sndA_nil))) (by exact (sndB_cons (sndS_asgN pr_cfg rfl rfl rfl (snd_call (fi := ⟨"_law_leader", fa 18, fdd 18, ["tape"]⟩) F rfl rfl rfl rfl rfl rfl (sa_b rfl sndA_nil))) (by exact (sndB_cons (sndS_asgN pr_cfg rfl rfl rfl (snd_call (fi := ⟨"_law_chambers_of", fa 26, fdd 26, ["rule"]⟩) F rfl rfl rfl rfl rfl rfl (sa_e rfl rfl (snd_var rfl) sndA_nil))) (by exact (sndB_cons (sndS_asgN pr_cfg rfl rfl rfl (snd_call (fi := ⟨"_law_numbers_of", fa 27, fdd 27, ["rule"]⟩) F rfl rfl rfl rfl rfl rfl (sa_e rfl rfl (snd_var rfl) sndA_nil))) (by exact (sndB_cons (sndS_asgN pr_cfg rfl rfl rfl (snd_call (fi := ⟨"_law_rule", fa 21, fdd 21, ["tape", "chambers", "kinds", "depth"]⟩) F rfl rfl rfl rfl rfl rfl (sa_b rfl (sa_e rfl rfl (snd_lst (snd_ints (ns := [0, 1, 2, 3]) rfl)) (sa_e rfl rfl (snd_lst (sa_e rfl rfl snd_str (sa_e rfl rfl snd_str (sa_e rfl rfl snd_str (sa_e rfl rfl snd_str (sa_e rfl rfl snd_str (sa_e rfl rfl snd_str sndA_nil))))))) (sa_e rfl rfl snd_int sndA_nil)))))) (by exact (sndB_kill (sndB_cons (sndS_for pr_cfg rfl (ninOf rfl) rfl (sndI_seq rfl (snd_lst (sa_e rfl rfl (snd_var rfl) (sa_e rfl rfl (snd_var rfl) sndA_nil)))) (sndB_cons (sndS_ife (sndT_not (sndT_truth rfl (so_e rfl (snd_call (fi := ⟨"_law_same", fa 12, fdd 12, ["actual", "expected"]⟩) F rfl rfl rfl rfl rfl rfl (sa_e rfl rfl (snd_call (fi := ⟨"named", fa 7, fdd 7, ["rule"]⟩) F rfl rfl rfl rfl rfl rfl (sa_e rfl rfl (snd_var rfl) sndA_nil)) (sa_e rfl rfl (snd_tup (sa_e rfl rfl (s_b1 B rfl rfl rfl (so_e rfl (snd_call (fi := ⟨"_law_chambers_of", fa 26, fdd 26, ["rule"]⟩) F rfl rfl rfl rfl rfl rfl (sa_e rfl rfl (snd_var rfl) sndA_nil)))) (sa_e rfl rfl (s_b1 B rfl rfl rfl (so_e rfl (snd_call (fi := ⟨"_law_numbers_of", fa 27, fdd 27, ["rule"]⟩) F rfl rfl rfl rfl rfl rfl (sa_e rfl rfl (snd_var rfl) sndA_nil)))) sndA_nil))) sndA_nil)))))) (sndB_cons (sndS_ret snd_bl) sndB_nil) sndB_nil) (sndB_kill sndB_nil))) (by exact (sndB_cons (sndS_asgN pr_cfg rfl rfl rfl (snd_lst sndA_nil)) (by exact (sndB_cons (sndS_asgN pr_cfg rfl rfl rfl (snd_lst sndA_nil)) (by exact (sndB_kill (sndB_cons (sndS_for pr_cfg rfl (ninOf rfl) rfl (sndI_rng1 rfl (B "range" (by decide)) rfl (sa_e rfl rfl (s_b1 B rfl rfl rfl (so_v rfl)) sndA_nil) rfl) (sndB_cons (sndS_expr rfl (s_app rfl rfl rfl (by decide) (sa_e rfl rfl (snd_call (fi := ⟨"_law_holders", fa 13, fdd 13, ["tape", "top"]⟩) F rfl rfl rfl rfl rfl rfl (sa_b rfl (sa_e rfl rfl snd_int sndA_nil))) sndA_nil))) (sndB_cons (sndS_ife (t_inn rfl (so_v rfl) (so_v rfl)) (sndB_cons (sndS_sti rfl rfl rfl (snd_var rfl) (s_ix rfl (so_v rfl) (so_v rfl))) (sndB_cons (sndS_asgN pr_cfg rfl rfl rfl (s_add (so_v rfl) (so_e rfl (s_b1 B rfl rfl rfl (so_e rfl (s_ix rfl (so_v rfl) (so_v rfl))))))) sndB_nil)) sndB_nil) (sndB_kill sndB_nil)))) (by exact (sndB_cons (sndS_asgN pr_cfg rfl rfl rfl (snd_call (fi := ⟨"_law_leader", fa 18, fdd 18, ["tape"]⟩) F rfl rfl rfl rfl rfl rfl (sa_b rfl sndA_nil))) (by exact (sndB_cons (sndS_ife (t_inn rfl (so_e rfl (snd_tup (sa_e rfl rfl snd_str sndA_nil))) (so_e rfl (snd_call (fi := ⟨"_law_leaves", fa 25, fdd 25, ["rule"]⟩) F rfl rfl rfl rfl rfl rfl (sa_e rfl rfl (snd_var rfl) sndA_nil)))) (sndB_cons (sndS_asgN pr_cfg rfl rfl rfl (snd_var rfl)) (sndB_cons (sndS_expr rfl (s_app rfl rfl rfl (by decide) (sa_e rfl rfl (snd_var rfl) sndA_nil))) (sndB_kill sndB_nil))) (sndB_kill sndB_nil)) (by exact (sndB_cons (sndS_asgN pr_cfg rfl rfl rfl (s_b1 B rfl rfl rfl (so_e rfl (snd_call (fi := ⟨"_law_roll", fa 15, fdd 15, ["tape", "many"]⟩) F rfl rfl rfl rfl rfl rfl (sa_b rfl (sa_e rfl rfl snd_int sndA_nil)))))) (by exact (sndB_kill (sndB_cons (sndS_for pr_cfg rfl (ninOf rfl) rfl (sndI_rng1 rfl (B "range" (by decide)) rfl (sa_e rfl rfl snd_int sndA_nil) rfl) (sndB_cons (sndS_ife (t_inn rfl (so_v rfl) (so_v rfl)) (sndB_cons (sndS_sti rfl rfl rfl (snd_var rfl) (s_ix rfl (so_e rfl (s_add (so_v rfl) (so_e rfl (s_mul (so_e rfl snd_str) (so_e rfl snd_int))))) (so_v rfl))) sndB_nil) sndB_nil) (sndB_kill sndB_nil))) (by exact (sndB_cons (sndS_asgN pr_cfg rfl rfl rfl (snd_call (fi := ⟨"_law_passes", fa 24, fdd 24, ["rule", "seats", "roll", "limits", "leader"]⟩) F rfl rfl rfl rfl rfl rfl (sa_e rfl rfl (snd_var rfl) (sa_e rfl rfl (snd_var rfl) (sa_e rfl rfl (snd_var rfl) (sa_e rfl rfl (snd_var rfl) (sa_e rfl rfl (snd_var rfl) sndA_nil))))))) (by exact (sndB_cons (sndS_ife (sndT_not (sndT_truth rfl (so_e rfl (snd_call (fi := ⟨"_law_same", fa 12, fdd 12, ["actual", "expected"]⟩) F rfl rfl rfl rfl rfl rfl (sa_e rfl rfl (snd_callK (fi := ⟨"passes", fa 6, fdd 6, ["rule", "seats", "roll_call", "parameters", "premier"]⟩) (es := [.var 2, .var 3, .var 4]) (fs := [.var 5, .var 6]) (ks := ["parameters", "premier"]) F rfl rfl rfl rfl rfl rfl rfl rfl (sa_e rfl rfl (snd_var rfl) (sa_e rfl rfl (snd_var rfl) (sa_e rfl rfl (snd_var rfl) sndA_nil))) (kwS_cons rfl (snd_var rfl) (kwS_cons rfl (snd_var rfl) kwS_nil))) (sa_e rfl rfl (snd_var rfl) sndA_nil)))))) (sndB_cons (sndS_ret snd_bl) sndB_nil) sndB_nil) (by exact (sndB_cons (sndS_asgN pr_cfg rfl rfl rfl (snd_call (fi := ⟨"_law_other_limits", fa 28, fdd 28, ["tape", "limits", "numbers"]⟩) F rfl rfl rfl rfl rfl rfl (sa_b rfl (sa_e rfl rfl (snd_var rfl) (sa_e rfl rfl (snd_var rfl) sndA_nil))))) (by exact (sndB_cons (sndS_ret (snd_call (fi := ⟨"_law_same", fa 12, fdd 12, ["actual", "expected"]⟩) F rfl rfl rfl rfl rfl rfl (sa_e rfl rfl (snd_callK (fi := ⟨"passes", fa 6, fdd 6, ["rule", "seats", "roll_call", "parameters", "premier"]⟩) (es := [.var 2, .op1 .tupl (.var 12), .mop .join (.str "") (.var 14)]) (fs := [.var 17, .var 9]) (ks := ["parameters", "premier"]) F rfl rfl rfl rfl rfl rfl rfl rfl (sa_e rfl rfl (snd_var rfl) (sa_e rfl rfl (s_b1 B rfl rfl rfl (so_v rfl)) (sa_e rfl rfl (s_join rfl rfl rfl (so_e rfl snd_str) (so_v rfl)) sndA_nil))) (kwS_cons rfl (snd_var rfl) (kwS_cons rfl (snd_var rfl) kwS_nil))) (sa_e rfl rfl (snd_var rfl) sndA_nil)))) (by exact sndB_nil)))))))))))))))))))))))))))))))))))))))))))))
end
end K03
set_option maxHeartbeats 4000000
namespace K03
open PySem PySem.Spec PyProof.Rows L2 LamX G
theorem c0 : FnScope n0 ["seats", "chamber"] (defScope s0) := ⟨rfl, rfl, rfl, by decide +kernel, rfl, by decide +kernel, by decide +kernel⟩
theorem c1 : FnScope n1 ["roll_call", "member"] (defScope s1) := ⟨rfl, rfl, rfl, by decide +kernel, rfl, by decide +kernel, by decide +kernel⟩
theorem c2 : FnScope n2 ["seats", "roll_call", "chamber"] (defScope s2) := ⟨rfl, rfl, rfl, by decide +kernel, rfl, by decide +kernel, by decide +kernel⟩
theorem c3 : FnScope n3 ["rule"] (defScope s3) := ⟨rfl, rfl, rfl, by decide +kernel, rfl, by decide +kernel, by decide +kernel⟩
theorem c4 : FnScope n4 ["rule", "counted", "parameters"] (defScope s4) := ⟨rfl, rfl, rfl, by decide +kernel, rfl, by decide +kernel, by decide +kernel⟩
theorem c5 : FnScope n5 ["rule", "tally_at", "premier_agrees", "parameters"] (defScope s5) := ⟨rfl, rfl, rfl, by decide +kernel, rfl, by decide +kernel, by decide +kernel⟩
theorem c6 : FnScope n6 ["rule", "seats", "roll_call", "parameters", "premier"] (defScope s6) := ⟨rfl, rfl, rfl, by decide +kernel, rfl, by decide +kernel, by decide +kernel⟩
theorem c7 : FnScope n7 ["rule"] (defScope s7) := ⟨rfl, rfl, rfl, by decide +kernel, rfl, by decide +kernel, by decide +kernel⟩
theorem c8 : FnScope n8 ["threshold", "parameters"] (defScope s8) := ⟨rfl, rfl, rfl, by decide +kernel, rfl, by decide +kernel, by decide +kernel⟩
theorem c9 : FnScope n9 ["denominator", "counted"] (defScope s9) := ⟨rfl, rfl, rfl, by decide +kernel, rfl, by decide +kernel, by decide +kernel⟩
theorem c10 : FnScope n10 ["script"] (defScope s10) := ⟨rfl, rfl, rfl, by decide +kernel, rfl, by decide +kernel, by decide +kernel⟩
theorem c11 : FnScope n11 ["tape", "many"] (defScope s11) := ⟨rfl, rfl, rfl, by decide +kernel, rfl, by decide +kernel, by decide +kernel⟩
theorem c12 : FnScope n12 ["actual", "expected"] (defScope s12) := ⟨rfl, rfl, rfl, by decide +kernel, rfl, by decide +kernel, by decide +kernel⟩
theorem c13 : FnScope n13 ["tape", "top"] (defScope s13) := ⟨rfl, rfl, rfl, by decide +kernel, rfl, by decide +kernel, by decide +kernel⟩
theorem c14 : FnScope n14 ["tape", "most"] (defScope s14) := ⟨rfl, rfl, rfl, by decide +kernel, rfl, by decide +kernel, by decide +kernel⟩
theorem c15 : FnScope n15 ["tape", "many"] (defScope s15) := ⟨rfl, rfl, rfl, by decide +kernel, rfl, by decide +kernel, by decide +kernel⟩
theorem c16 : FnScope n16 ["seats", "roll", "chamber"] (defScope s16) := ⟨rfl, rfl, rfl, by decide +kernel, rfl, by decide +kernel, by decide +kernel⟩
theorem c17 : FnScope n17 ["tape"] (defScope s17) := ⟨rfl, rfl, rfl, by decide +kernel, rfl, by decide +kernel, by decide +kernel⟩
theorem c18 : FnScope n18 ["tape"] (defScope s18) := ⟨rfl, rfl, rfl, by decide +kernel, rfl, by decide +kernel, by decide +kernel⟩
theorem c19 : FnScope n19 ["tape"] (defScope s19) := ⟨rfl, rfl, rfl, by decide +kernel, rfl, by decide +kernel, by decide +kernel⟩
theorem c20 : FnScope n20 ["tape", "chambers", "kinds"] (defScope s20) := ⟨rfl, rfl, rfl, by decide +kernel, rfl, by decide +kernel, by decide +kernel⟩
theorem c21 : FnScope n21 ["tape", "chambers", "kinds", "depth"] (defScope s21) := ⟨rfl, rfl, rfl, by decide +kernel, rfl, by decide +kernel, by decide +kernel⟩
theorem c22 : FnScope n22 ["threshold", "limits"] (defScope s22) := ⟨rfl, rfl, rfl, by decide +kernel, rfl, by decide +kernel, by decide +kernel⟩
theorem c23 : FnScope n23 ["rule", "counts", "limits"] (defScope s23) := ⟨rfl, rfl, rfl, by decide +kernel, rfl, by decide +kernel, by decide +kernel⟩
theorem c24 : FnScope n24 ["rule", "seats", "roll", "limits", "leader"] (defScope s24) := ⟨rfl, rfl, rfl, by decide +kernel, rfl, by decide +kernel, by decide +kernel⟩
theorem c25 : FnScope n25 ["rule"] (defScope s25) := ⟨rfl, rfl, rfl, by decide +kernel, rfl, by decide +kernel, by decide +kernel⟩
theorem c26 : FnScope n26 ["rule"] (defScope s26) := ⟨rfl, rfl, rfl, by decide +kernel, rfl, by decide +kernel, by decide +kernel⟩
theorem c27 : FnScope n27 ["rule"] (defScope s27) := ⟨rfl, rfl, rfl, by decide +kernel, rfl, by decide +kernel, by decide +kernel⟩
theorem c28 : FnScope n28 ["tape", "limits", "numbers"] (defScope s28) := ⟨rfl, rfl, rfl, by decide +kernel, rfl, by decide +kernel, by decide +kernel⟩
theorem c29 : FnScope n29 ["script"] (defScope s29) := ⟨rfl, rfl, rfl, by decide +kernel, rfl, by decide +kernel, by decide +kernel⟩
def dfs : List Df := [d0, d1, d2, d3, d4, d5, d6, d7, d8, d9, d10, d11, d12, d13, d14, d15, d16, d17, d18, d19, d20, d21, d22, d23, d24, d25, d26, d27, d28, d29, d30]
section
variable {P : Program} {w : World} {K : PySem.W.Frag} {mg : Str → Option Value} {base : Heap} {fa : Nat → Addr} {fdd : Nat → FuncData}
theorem sh_all (e0 : ShOk K (fdd 0) ["seats", "chamber"] [] 2 ((List.range 2).map .inl)) (e1 : ShOk K (fdd 1) ["roll_call", "member"] [] 2 ((List.range 2).map .inl)) (e2 : ShOk K (fdd 2) ["seats", "roll_call", "chamber"] [] 3 ((List.range 3).map .inl)) (e3 : ShOk K (fdd 3) ["rule"] [] 1 ((List.range 1).map .inl)) (e4 : ShOk K (fdd 4) ["rule", "counted", "parameters"] [] 3 ((List.range 3).map .inl)) (e5 : ShOk K (fdd 5) ["rule", "tally_at", "premier_agrees", "parameters"] [] 4 ((List.range 4).map .inl)) (e6 : ShOk K (fdd 6) ["rule", "seats", "roll_call", "parameters", "premier"] ["parameters", "premier"] 3 ((List.range 5).map .inl)) (e7 : ShOk K (fdd 7) ["rule"] [] 1 ((List.range 1).map .inl)) (e8 : ShOk K (fdd 8) ["threshold", "parameters"] [] 2 ((List.range 2).map .inl)) (e9 : ShOk K (fdd 9) ["denominator", "counted"] [] 2 ((List.range 2).map .inl)) (e10 : ShOk K (fdd 10) ["script"] [] 1 ((List.range 1).map .inl)) (e11 : ShOk K (fdd 11) ["tape", "many"] [] 2 ((List.range 2).map .inl)) (e12 : ShOk K (fdd 12) ["actual", "expected"] [] 2 ((List.range 2).map .inl)) (e13 : ShOk K (fdd 13) ["tape", "top"] [] 2 ((List.range 2).map .inl)) (e14 : ShOk K (fdd 14) ["tape", "most"] [] 2 ((List.range 2).map .inl)) (e15 : ShOk K (fdd 15) ["tape", "many"] [] 2 ((List.range 2).map .inl)) (e16 : ShOk K (fdd 16) ["seats", "roll", "chamber"] [] 3 ((List.range 3).map .inl)) (e17 : ShOk K (fdd 17) ["tape"] [] 1 ((List.range 1).map .inl)) (e18 : ShOk K (fdd 18) ["tape"] [] 1 ((List.range 1).map .inl)) (e19 : ShOk K (fdd 19) ["tape"] [] 1 ((List.range 1).map .inl)) (e20 : ShOk K (fdd 20) ["tape", "chambers", "kinds"] [] 3 ((List.range 3).map .inl)) (e21 : ShOk K (fdd 21) ["tape", "chambers", "kinds", "depth"] [] 4 ((List.range 4).map .inl)) (e22 : ShOk K (fdd 22) ["threshold", "limits"] [] 2 ((List.range 2).map .inl)) (e23 : ShOk K (fdd 23) ["rule", "counts", "limits"] [] 3 ((List.range 3).map .inl)) (e24 : ShOk K (fdd 24) ["rule", "seats", "roll", "limits", "leader"] [] 5 ((List.range 5).map .inl)) (e25 : ShOk K (fdd 25) ["rule"] [] 1 ((List.range 1).map .inl)) (e26 : ShOk K (fdd 26) ["rule"] [] 1 ((List.range 1).map .inl)) (e27 : ShOk K (fdd 27) ["rule"] [] 1 ((List.range 1).map .inl)) (e28 : ShOk K (fdd 28) ["tape", "limits", "numbers"] [] 3 ((List.range 3).map .inl)) (e29 : ShOk K (fdd 29) ["script"] [] 1 ((List.range 1).map .inl)) : ∀ i fi j np ks sh, ft fa fdd i = some fi → tt i j = some (np, ks, sh) → ShOk K fi.fd fi.ps ks np sh := by
  intro i fi j np ks sh h1 h2
  match i, j, h1, h2 with
  | 0, 0, h1, h2 => cases h1; cases h2; exact e0
  | 0, j + 1, h1, h2 => simp [tt, tab] at h2
  | 1, 0, h1, h2 => cases h1; cases h2; exact e1
  | 1, j + 1, h1, h2 => simp [tt, tab] at h2
  | 2, 0, h1, h2 => cases h1; cases h2; exact e2
  | 2, j + 1, h1, h2 => simp [tt, tab] at h2
  | 3, 0, h1, h2 => cases h1; cases h2; exact e3
  | 3, j + 1, h1, h2 => simp [tt, tab] at h2
  | 4, 0, h1, h2 => cases h1; cases h2; exact e4
  | 4, j + 1, h1, h2 => simp [tt, tab] at h2
  | 5, 0, h1, h2 => cases h1; cases h2; exact e5
  | 5, j + 1, h1, h2 => simp [tt, tab] at h2
  | 6, 0, h1, h2 => cases h1; cases h2; exact e6
  | 6, j + 1, h1, h2 => simp [tt, tab] at h2
  | 7, 0, h1, h2 => cases h1; cases h2; exact e7
  | 7, j + 1, h1, h2 => simp [tt, tab] at h2
  | 8, 0, h1, h2 => cases h1; cases h2; exact e8
  | 8, j + 1, h1, h2 => simp [tt, tab] at h2
  | 9, 0, h1, h2 => cases h1; cases h2; exact e9
  | 9, j + 1, h1, h2 => simp [tt, tab] at h2
  | 10, 0, h1, h2 => cases h1; cases h2; exact e10
  | 10, j + 1, h1, h2 => simp [tt, tab] at h2
  | 11, 0, h1, h2 => cases h1; cases h2; exact e11
  | 11, j + 1, h1, h2 => simp [tt, tab] at h2
  | 12, 0, h1, h2 => cases h1; cases h2; exact e12
  | 12, j + 1, h1, h2 => simp [tt, tab] at h2
  | 13, 0, h1, h2 => cases h1; cases h2; exact e13
  | 13, j + 1, h1, h2 => simp [tt, tab] at h2
  | 14, 0, h1, h2 => cases h1; cases h2; exact e14
  | 14, j + 1, h1, h2 => simp [tt, tab] at h2
  | 15, 0, h1, h2 => cases h1; cases h2; exact e15
  | 15, j + 1, h1, h2 => simp [tt, tab] at h2
  | 16, 0, h1, h2 => cases h1; cases h2; exact e16
  | 16, j + 1, h1, h2 => simp [tt, tab] at h2
  | 17, 0, h1, h2 => cases h1; cases h2; exact e17
  | 17, j + 1, h1, h2 => simp [tt, tab] at h2
  | 18, 0, h1, h2 => cases h1; cases h2; exact e18
  | 18, j + 1, h1, h2 => simp [tt, tab] at h2
  | 19, 0, h1, h2 => cases h1; cases h2; exact e19
  | 19, j + 1, h1, h2 => simp [tt, tab] at h2
  | 20, 0, h1, h2 => cases h1; cases h2; exact e20
  | 20, j + 1, h1, h2 => simp [tt, tab] at h2
  | 21, 0, h1, h2 => cases h1; cases h2; exact e21
  | 21, j + 1, h1, h2 => simp [tt, tab] at h2
  | 22, 0, h1, h2 => cases h1; cases h2; exact e22
  | 22, j + 1, h1, h2 => simp [tt, tab] at h2
  | 23, 0, h1, h2 => cases h1; cases h2; exact e23
  | 23, j + 1, h1, h2 => simp [tt, tab] at h2
  | 24, 0, h1, h2 => cases h1; cases h2; exact e24
  | 24, j + 1, h1, h2 => simp [tt, tab] at h2
  | 25, 0, h1, h2 => cases h1; cases h2; exact e25
  | 25, j + 1, h1, h2 => simp [tt, tab] at h2
  | 26, 0, h1, h2 => cases h1; cases h2; exact e26
  | 26, j + 1, h1, h2 => simp [tt, tab] at h2
  | 27, 0, h1, h2 => cases h1; cases h2; exact e27
  | 27, j + 1, h1, h2 => simp [tt, tab] at h2
  | 28, 0, h1, h2 => cases h1; cases h2; exact e28
  | 28, j + 1, h1, h2 => simp [tt, tab] at h2
  | 29, 0, h1, h2 => cases h1; cases h2; exact e29
  | 29, j + 1, h1, h2 => simp [tt, tab] at h2
  | i + 30, j, h1, h2 => simp [ft, nms] at h1
variable [Tb]
abbrev c00 (P : Program) (w : World) (K : PySem.W.Frag) (mg : Str → Option Value) (base : Heap) (k : Nat) : Cfg := cfgOf P w K mg base (defScope s0) [] [] k (fun _ => none)
theorem up30 {j k : Nat} (B : ∀ x ∈ bnames, mg x = none) (T : FtOk (c00 P w K mg base k) (calls dfs (shsOf tt) j) (ft fa fdd) tt) : LamOk P w K mg base (k + 2) lam30 1 (spOf (c00 P w K mg base (k + 2)) (calls dfs (shsOf tt) (j + 1)) 30 (1 + lam30.caps.length)) :=
  lam_ok (C0 := c00 P w K mg base (k + 2)) (exA := fun _ => none) (N := n30) (ps := ["chamber"]) (Φ := calls dfs (shsOf tt) j) (shs := shsOf tt) rfl rfl (NdefX.nscope_by (by decide +kernel)) (fun _ _ _ _ us hl => match us, hl with | [_], _ => rfl) (b30 B (ft_lam T)) (fun ss => calls_succ rfl)
theorem up0 {j k : Nat} (F : Fun K "holders_of" "holders_of" s0 (fa 0) (fdd 0)) (B : ∀ x ∈ bnames, mg x = none) (T : FtOk (c00 P w K mg base k) (calls dfs (shsOf tt) j) (ft fa fdd) tt) (Lt : LtOk (c00 P w K mg base k) (calls dfs (shsOf tt) j) lt) : FnOk P w K mg base (L2.CX P w) (k + 2) (fa 0) (fdd 0) ["seats", "chamber"] (spOf (c00 P w K mg base (k + 2)) (calls dfs (shsOf tt) (j + 1)) 0 2) :=
  df_ok (cd := none) (C0 := c00 P w K mg base (k + 2)) (exA := fun _ => none) (d := d0) (Φ := calls dfs (shsOf tt) j) (shs := shsOf tt) rfl rfl F (fun q h => nomatch h) c0 rfl (b0 B (ft_move T) (lt_move Lt)) (fun ss => calls_succ rfl)
theorem up1 {j k : Nat} (F : Fun K "vote_of" "vote_of" s1 (fa 1) (fdd 1)) (B : ∀ x ∈ bnames, mg x = none) (T : FtOk (c00 P w K mg base k) (calls dfs (shsOf tt) j) (ft fa fdd) tt) (Lt : LtOk (c00 P w K mg base k) (calls dfs (shsOf tt) j) lt) : FnOk P w K mg base (L2.CX P w) (k + 2) (fa 1) (fdd 1) ["roll_call", "member"] (spOf (c00 P w K mg base (k + 2)) (calls dfs (shsOf tt) (j + 1)) 1 2) :=
  df_ok (cd := none) (C0 := c00 P w K mg base (k + 2)) (exA := fun _ => none) (d := d1) (Φ := calls dfs (shsOf tt) j) (shs := shsOf tt) rfl rfl F (fun q h => nomatch h) c1 rfl (b1 B (ft_move T) (lt_move Lt)) (fun ss => calls_succ rfl)
theorem up2 {j k : Nat} (F : Fun K "tally" "tally" s2 (fa 2) (fdd 2)) (B : ∀ x ∈ bnames, mg x = none) (T : FtOk (c00 P w K mg base k) (calls dfs (shsOf tt) j) (ft fa fdd) tt) (Lt : LtOk (c00 P w K mg base k) (calls dfs (shsOf tt) j) lt) : FnOk P w K mg base (L2.CX P w) (k + 2) (fa 2) (fdd 2) ["seats", "roll_call", "chamber"] (spOf (c00 P w K mg base (k + 2)) (calls dfs (shsOf tt) (j + 1)) 2 3) :=
  df_ok (cd := none) (C0 := c00 P w K mg base (k + 2)) (exA := fun _ => none) (d := d2) (Φ := calls dfs (shsOf tt) j) (shs := shsOf tt) rfl rfl F (fun q h => nomatch h) c2 rfl (b2 B (ft_move T) (lt_move Lt)) (fun ss => calls_succ rfl)
theorem up3 {j k : Nat} (F : Fun K "leaves" "leaves" s3 (fa 3) (fdd 3)) (B : ∀ x ∈ bnames, mg x = none) (T : FtOk (c00 P w K mg base k) (calls dfs (shsOf tt) j) (ft fa fdd) tt) (Lt : LtOk (c00 P w K mg base k) (calls dfs (shsOf tt) j) lt) : FnOk P w K mg base (L2.CX P w) (k + 2) (fa 3) (fdd 3) ["rule"] (spOf (c00 P w K mg base (k + 2)) (calls dfs (shsOf tt) (j + 1)) 3 1) :=
  df_ok (cd := none) (C0 := c00 P w K mg base (k + 2)) (exA := fun _ => none) (d := d3) (Φ := calls dfs (shsOf tt) j) (shs := shsOf tt) rfl rfl F (fun q h => nomatch h) c3 rfl (b3 B (ft_move T) (lt_move Lt)) (fun ss => calls_succ rfl)
theorem up4 {j k : Nat} (F : Fun K "simple_passes" "simple_passes" s4 (fa 4) (fdd 4)) (B : ∀ x ∈ bnames, mg x = none) (T : FtOk (c00 P w K mg base k) (calls dfs (shsOf tt) j) (ft fa fdd) tt) (Lt : LtOk (c00 P w K mg base k) (calls dfs (shsOf tt) j) lt) : FnOk P w K mg base (L2.CX P w) (k + 2) (fa 4) (fdd 4) ["rule", "counted", "parameters"] (spOf (c00 P w K mg base (k + 2)) (calls dfs (shsOf tt) (j + 1)) 4 3) :=
  df_ok (cd := none) (C0 := c00 P w K mg base (k + 2)) (exA := fun _ => none) (d := d4) (Φ := calls dfs (shsOf tt) j) (shs := shsOf tt) rfl rfl F (fun q h => nomatch h) c4 rfl (b4 B (ft_move T) (lt_move Lt)) (fun ss => calls_succ rfl)
theorem up5 {j k : Nat} (F : Fun K "evaluate" "evaluate" s5 (fa 5) (fdd 5)) (B : ∀ x ∈ bnames, mg x = none) (T : FtOk (c00 P w K mg base k) (calls dfs (shsOf tt) j) (ft fa fdd) tt) (Lt : LtOk (c00 P w K mg base k) (calls dfs (shsOf tt) j) lt) : FnOk P w K mg base (L2.CX P w) (k + 2) (fa 5) (fdd 5) ["rule", "tally_at", "premier_agrees", "parameters"] (spOf (c00 P w K mg base (k + 2)) (calls dfs (shsOf tt) (j + 1)) 5 4) :=
  df_ok (cd := none) (C0 := c00 P w K mg base (k + 2)) (exA := fun _ => none) (d := d5) (Φ := calls dfs (shsOf tt) j) (shs := shsOf tt) rfl rfl F (fun q h => nomatch h) c5 rfl (b5 B (ft_move T) (lt_move Lt)) (fun ss => calls_succ rfl)
theorem up6 {j k : Nat} {cc30 Pc30 : Addr} (F : Fun K "passes" "passes" s6 (fa 6) (fdd 6)) (B : ∀ x ∈ bnames, mg x = none) (T : FtOk (c00 P w K mg base k) (calls dfs (shsOf tt) j) (ft fa fdd) tt) (Lt : LtOk (c00 P w K mg base k) (calls dfs (shsOf tt) j) lt) (hc30 : (fdd 6).code = .ref cc30) (tb30 : TabB base mg cc30 Pc30) (me30 : (Pc30, lam30.qual) ∈ Tb.tabs) (un30 : ∀ p ∈ Tb.tabs, p.1 = Pc30 → p.2 = lam30.qual) (hL30 : Tb.lam 30 = some lam30) (hB30 : L2.Binds K (fdd 5) ["rule", "tally_at", "premier_agrees", "parameters"] []) : FnOk P w K mg base (L2.CX P w) (k + 2) (fa 6) (fdd 6) ["rule", "seats", "roll_call", "parameters", "premier"] (spOf (c00 P w K mg base (k + 2)) (calls dfs (shsOf tt) (j + 1)) 6 5) :=
  df_ok (cd := some (.ref cc30, ((("passes" : Str) ++ ".<locals>.")))) (C0 := c00 P w K mg base (k + 2)) (exA := fun _ => none) (d := d6) (Φ := calls dfs (shsOf tt) j) (shs := shsOf tt) rfl rfl F (fun q h => by cases h; exact ⟨hc30, rfl⟩) c6 rfl (b6 B (ft_move T) (lt_move Lt) hL30 (lamAt_of rfl tb30 me30 un30 (fun _ => rfl) (by decide +kernel) (by decide +kernel) (by decide +kernel) (by decide +kernel) (by decide +kernel)) hB30) (fun ss => calls_succ rfl)
theorem up7 {j k : Nat} (F : Fun K "named" "named" s7 (fa 7) (fdd 7)) (B : ∀ x ∈ bnames, mg x = none) (T : FtOk (c00 P w K mg base k) (calls dfs (shsOf tt) j) (ft fa fdd) tt) (Lt : LtOk (c00 P w K mg base k) (calls dfs (shsOf tt) j) lt) : FnOk P w K mg base (L2.CX P w) (k + 2) (fa 7) (fdd 7) ["rule"] (spOf (c00 P w K mg base (k + 2)) (calls dfs (shsOf tt) (j + 1)) 7 1) :=
  df_ok (cd := none) (C0 := c00 P w K mg base (k + 2)) (exA := fun _ => none) (d := d7) (Φ := calls dfs (shsOf tt) j) (shs := shsOf tt) rfl rfl F (fun q h => nomatch h) c7 rfl (b7 B (ft_move T) (lt_move Lt)) (fun ss => calls_succ rfl)
theorem up8 {j k : Nat} (F : Fun K "_threshold_value" "_threshold_value" s8 (fa 8) (fdd 8)) (B : ∀ x ∈ bnames, mg x = none) (T : FtOk (c00 P w K mg base k) (calls dfs (shsOf tt) j) (ft fa fdd) tt) (Lt : LtOk (c00 P w K mg base k) (calls dfs (shsOf tt) j) lt) : FnOk P w K mg base (L2.CX P w) (k + 2) (fa 8) (fdd 8) ["threshold", "parameters"] (spOf (c00 P w K mg base (k + 2)) (calls dfs (shsOf tt) (j + 1)) 8 2) :=
  df_ok (cd := none) (C0 := c00 P w K mg base (k + 2)) (exA := fun _ => none) (d := d8) (Φ := calls dfs (shsOf tt) j) (shs := shsOf tt) rfl rfl F (fun q h => nomatch h) c8 rfl (b8 B (ft_move T) (lt_move Lt)) (fun ss => calls_succ rfl)
theorem up9 {j k : Nat} (F : Fun K "_denominator_value" "_denominator_value" s9 (fa 9) (fdd 9)) (B : ∀ x ∈ bnames, mg x = none) (T : FtOk (c00 P w K mg base k) (calls dfs (shsOf tt) j) (ft fa fdd) tt) (Lt : LtOk (c00 P w K mg base k) (calls dfs (shsOf tt) j) lt) : FnOk P w K mg base (L2.CX P w) (k + 2) (fa 9) (fdd 9) ["denominator", "counted"] (spOf (c00 P w K mg base (k + 2)) (calls dfs (shsOf tt) (j + 1)) 9 2) :=
  df_ok (cd := none) (C0 := c00 P w K mg base (k + 2)) (exA := fun _ => none) (d := d9) (Φ := calls dfs (shsOf tt) j) (shs := shsOf tt) rfl rfl F (fun q h => nomatch h) c9 rfl (b9 B (ft_move T) (lt_move Lt)) (fun ss => calls_succ rfl)
theorem up10 {j k : Nat} (F : Fun K "_law_tape" "_law_tape" s10 (fa 10) (fdd 10)) (B : ∀ x ∈ bnames, mg x = none) (T : FtOk (c00 P w K mg base k) (calls dfs (shsOf tt) j) (ft fa fdd) tt) (Lt : LtOk (c00 P w K mg base k) (calls dfs (shsOf tt) j) lt) : FnOk P w K mg base (L2.CX P w) (k + 2) (fa 10) (fdd 10) ["script"] (spOf (c00 P w K mg base (k + 2)) (calls dfs (shsOf tt) (j + 1)) 10 1) :=
  df_ok (cd := none) (C0 := c00 P w K mg base (k + 2)) (exA := fun _ => none) (d := d10) (Φ := calls dfs (shsOf tt) j) (shs := shsOf tt) rfl rfl F (fun q h => nomatch h) c10 rfl (b10 B (ft_move T) (lt_move Lt)) (fun ss => calls_succ rfl)
theorem up11 {j k : Nat} (F : Fun K "_law_draw" "_law_draw" s11 (fa 11) (fdd 11)) (B : ∀ x ∈ bnames, mg x = none) (T : FtOk (c00 P w K mg base k) (calls dfs (shsOf tt) j) (ft fa fdd) tt) (Lt : LtOk (c00 P w K mg base k) (calls dfs (shsOf tt) j) lt) : FnOk P w K mg base (L2.CX P w) (k + 2) (fa 11) (fdd 11) ["tape", "many"] (spOf (c00 P w K mg base (k + 2)) (calls dfs (shsOf tt) (j + 1)) 11 2) :=
  df_ok (cd := none) (C0 := c00 P w K mg base (k + 2)) (exA := fun _ => none) (d := d11) (Φ := calls dfs (shsOf tt) j) (shs := shsOf tt) rfl rfl F (fun q h => nomatch h) c11 rfl (b11 B (ft_move T) (lt_move Lt)) (fun ss => calls_succ rfl)
theorem up12 {j k : Nat} (F : Fun K "_law_same" "_law_same" s12 (fa 12) (fdd 12)) (B : ∀ x ∈ bnames, mg x = none) (T : FtOk (c00 P w K mg base k) (calls dfs (shsOf tt) j) (ft fa fdd) tt) (Lt : LtOk (c00 P w K mg base k) (calls dfs (shsOf tt) j) lt) : FnOk P w K mg base (L2.CX P w) (k + 2) (fa 12) (fdd 12) ["actual", "expected"] (spOf (c00 P w K mg base (k + 2)) (calls dfs (shsOf tt) (j + 1)) 12 2) :=
  df_ok (cd := none) (C0 := c00 P w K mg base (k + 2)) (exA := fun _ => none) (d := d12) (Φ := calls dfs (shsOf tt) j) (shs := shsOf tt) rfl rfl F (fun q h => nomatch h) c12 rfl (b12 B (ft_move T) (lt_move Lt)) (fun ss => calls_succ rfl)
theorem up13 {j k : Nat} (F : Fun K "_law_holders" "_law_holders" s13 (fa 13) (fdd 13)) (B : ∀ x ∈ bnames, mg x = none) (T : FtOk (c00 P w K mg base k) (calls dfs (shsOf tt) j) (ft fa fdd) tt) (Lt : LtOk (c00 P w K mg base k) (calls dfs (shsOf tt) j) lt) : FnOk P w K mg base (L2.CX P w) (k + 2) (fa 13) (fdd 13) ["tape", "top"] (spOf (c00 P w K mg base (k + 2)) (calls dfs (shsOf tt) (j + 1)) 13 2) :=
  df_ok (cd := none) (C0 := c00 P w K mg base (k + 2)) (exA := fun _ => none) (d := d13) (Φ := calls dfs (shsOf tt) j) (shs := shsOf tt) rfl rfl F (fun q h => nomatch h) c13 rfl (b13 B (ft_move T) (lt_move Lt)) (fun ss => calls_succ rfl)
theorem up14 {j k : Nat} (F : Fun K "_law_seats" "_law_seats" s14 (fa 14) (fdd 14)) (B : ∀ x ∈ bnames, mg x = none) (T : FtOk (c00 P w K mg base k) (calls dfs (shsOf tt) j) (ft fa fdd) tt) (Lt : LtOk (c00 P w K mg base k) (calls dfs (shsOf tt) j) lt) : FnOk P w K mg base (L2.CX P w) (k + 2) (fa 14) (fdd 14) ["tape", "most"] (spOf (c00 P w K mg base (k + 2)) (calls dfs (shsOf tt) (j + 1)) 14 2) :=
  df_ok (cd := none) (C0 := c00 P w K mg base (k + 2)) (exA := fun _ => none) (d := d14) (Φ := calls dfs (shsOf tt) j) (shs := shsOf tt) rfl rfl F (fun q h => nomatch h) c14 rfl (b14 B (ft_move T) (lt_move Lt)) (fun ss => calls_succ rfl)
theorem up15 {j k : Nat} (F : Fun K "_law_roll" "_law_roll" s15 (fa 15) (fdd 15)) (B : ∀ x ∈ bnames, mg x = none) (T : FtOk (c00 P w K mg base k) (calls dfs (shsOf tt) j) (ft fa fdd) tt) (Lt : LtOk (c00 P w K mg base k) (calls dfs (shsOf tt) j) lt) : FnOk P w K mg base (L2.CX P w) (k + 2) (fa 15) (fdd 15) ["tape", "many"] (spOf (c00 P w K mg base (k + 2)) (calls dfs (shsOf tt) (j + 1)) 15 2) :=
  df_ok (cd := none) (C0 := c00 P w K mg base (k + 2)) (exA := fun _ => none) (d := d15) (Φ := calls dfs (shsOf tt) j) (shs := shsOf tt) rfl rfl F (fun q h => nomatch h) c15 rfl (b15 B (ft_move T) (lt_move Lt)) (fun ss => calls_succ rfl)
theorem up16 {j k : Nat} (F : Fun K "_law_tally" "_law_tally" s16 (fa 16) (fdd 16)) (B : ∀ x ∈ bnames, mg x = none) (T : FtOk (c00 P w K mg base k) (calls dfs (shsOf tt) j) (ft fa fdd) tt) (Lt : LtOk (c00 P w K mg base k) (calls dfs (shsOf tt) j) lt) : FnOk P w K mg base (L2.CX P w) (k + 2) (fa 16) (fdd 16) ["seats", "roll", "chamber"] (spOf (c00 P w K mg base (k + 2)) (calls dfs (shsOf tt) (j + 1)) 16 3) :=
  df_ok (cd := none) (C0 := c00 P w K mg base (k + 2)) (exA := fun _ => none) (d := d16) (Φ := calls dfs (shsOf tt) j) (shs := shsOf tt) rfl rfl F (fun q h => nomatch h) c16 rfl (b16 B (ft_move T) (lt_move Lt)) (fun ss => calls_succ rfl)
theorem up17 {j k : Nat} (F : Fun K "_law_limits" "_law_limits" s17 (fa 17) (fdd 17)) (B : ∀ x ∈ bnames, mg x = none) (T : FtOk (c00 P w K mg base k) (calls dfs (shsOf tt) j) (ft fa fdd) tt) (Lt : LtOk (c00 P w K mg base k) (calls dfs (shsOf tt) j) lt) : FnOk P w K mg base (L2.CX P w) (k + 2) (fa 17) (fdd 17) ["tape"] (spOf (c00 P w K mg base (k + 2)) (calls dfs (shsOf tt) (j + 1)) 17 1) :=
  df_ok (cd := none) (C0 := c00 P w K mg base (k + 2)) (exA := fun _ => none) (d := d17) (Φ := calls dfs (shsOf tt) j) (shs := shsOf tt) rfl rfl F (fun q h => nomatch h) c17 rfl (b17 B (ft_move T) (lt_move Lt)) (fun ss => calls_succ rfl)
theorem up18 {j k : Nat} (F : Fun K "_law_leader" "_law_leader" s18 (fa 18) (fdd 18)) (B : ∀ x ∈ bnames, mg x = none) (T : FtOk (c00 P w K mg base k) (calls dfs (shsOf tt) j) (ft fa fdd) tt) (Lt : LtOk (c00 P w K mg base k) (calls dfs (shsOf tt) j) lt) : FnOk P w K mg base (L2.CX P w) (k + 2) (fa 18) (fdd 18) ["tape"] (spOf (c00 P w K mg base (k + 2)) (calls dfs (shsOf tt) (j + 1)) 18 1) :=
  df_ok (cd := none) (C0 := c00 P w K mg base (k + 2)) (exA := fun _ => none) (d := d18) (Φ := calls dfs (shsOf tt) j) (shs := shsOf tt) rfl rfl F (fun q h => nomatch h) c18 rfl (b18 B (ft_move T) (lt_move Lt)) (fun ss => calls_succ rfl)
theorem up19 {j k : Nat} (F : Fun K "_law_threshold" "_law_threshold" s19 (fa 19) (fdd 19)) (B : ∀ x ∈ bnames, mg x = none) (T : FtOk (c00 P w K mg base k) (calls dfs (shsOf tt) j) (ft fa fdd) tt) (Lt : LtOk (c00 P w K mg base k) (calls dfs (shsOf tt) j) lt) : FnOk P w K mg base (L2.CX P w) (k + 2) (fa 19) (fdd 19) ["tape"] (spOf (c00 P w K mg base (k + 2)) (calls dfs (shsOf tt) (j + 1)) 19 1) :=
  df_ok (cd := none) (C0 := c00 P w K mg base (k + 2)) (exA := fun _ => none) (d := d19) (Φ := calls dfs (shsOf tt) j) (shs := shsOf tt) rfl rfl F (fun q h => nomatch h) c19 rfl (b19 B (ft_move T) (lt_move Lt)) (fun ss => calls_succ rfl)
theorem up20 {j k : Nat} (F : Fun K "_law_simple" "_law_simple" s20 (fa 20) (fdd 20)) (B : ∀ x ∈ bnames, mg x = none) (T : FtOk (c00 P w K mg base k) (calls dfs (shsOf tt) j) (ft fa fdd) tt) (Lt : LtOk (c00 P w K mg base k) (calls dfs (shsOf tt) j) lt) : FnOk P w K mg base (L2.CX P w) (k + 2) (fa 20) (fdd 20) ["tape", "chambers", "kinds"] (spOf (c00 P w K mg base (k + 2)) (calls dfs (shsOf tt) (j + 1)) 20 3) :=
  df_ok (cd := none) (C0 := c00 P w K mg base (k + 2)) (exA := fun _ => none) (d := d20) (Φ := calls dfs (shsOf tt) j) (shs := shsOf tt) rfl rfl F (fun q h => nomatch h) c20 rfl (b20 B (ft_move T) (lt_move Lt)) (fun ss => calls_succ rfl)
theorem up21 {j k : Nat} (F : Fun K "_law_rule" "_law_rule" s21 (fa 21) (fdd 21)) (B : ∀ x ∈ bnames, mg x = none) (T : FtOk (c00 P w K mg base k) (calls dfs (shsOf tt) j) (ft fa fdd) tt) (Lt : LtOk (c00 P w K mg base k) (calls dfs (shsOf tt) j) lt) : FnOk P w K mg base (L2.CX P w) (k + 2) (fa 21) (fdd 21) ["tape", "chambers", "kinds", "depth"] (spOf (c00 P w K mg base (k + 2)) (calls dfs (shsOf tt) (j + 1)) 21 4) :=
  df_ok (cd := none) (C0 := c00 P w K mg base (k + 2)) (exA := fun _ => none) (d := d21) (Φ := calls dfs (shsOf tt) j) (shs := shsOf tt) rfl rfl F (fun q h => nomatch h) c21 rfl (b21 B (ft_move T) (lt_move Lt)) (fun ss => calls_succ rfl)
theorem up22 {j k : Nat} (F : Fun K "_law_limit" "_law_limit" s22 (fa 22) (fdd 22)) (B : ∀ x ∈ bnames, mg x = none) (T : FtOk (c00 P w K mg base k) (calls dfs (shsOf tt) j) (ft fa fdd) tt) (Lt : LtOk (c00 P w K mg base k) (calls dfs (shsOf tt) j) lt) : FnOk P w K mg base (L2.CX P w) (k + 2) (fa 22) (fdd 22) ["threshold", "limits"] (spOf (c00 P w K mg base (k + 2)) (calls dfs (shsOf tt) (j + 1)) 22 2) :=
  df_ok (cd := none) (C0 := c00 P w K mg base (k + 2)) (exA := fun _ => none) (d := d22) (Φ := calls dfs (shsOf tt) j) (shs := shsOf tt) rfl rfl F (fun q h => nomatch h) c22 rfl (b22 B (ft_move T) (lt_move Lt)) (fun ss => calls_succ rfl)
theorem up23 {j k : Nat} (F : Fun K "_law_by_counts" "_law_by_counts" s23 (fa 23) (fdd 23)) (B : ∀ x ∈ bnames, mg x = none) (T : FtOk (c00 P w K mg base k) (calls dfs (shsOf tt) j) (ft fa fdd) tt) (Lt : LtOk (c00 P w K mg base k) (calls dfs (shsOf tt) j) lt) : FnOk P w K mg base (L2.CX P w) (k + 2) (fa 23) (fdd 23) ["rule", "counts", "limits"] (spOf (c00 P w K mg base (k + 2)) (calls dfs (shsOf tt) (j + 1)) 23 3) :=
  df_ok (cd := none) (C0 := c00 P w K mg base (k + 2)) (exA := fun _ => none) (d := d23) (Φ := calls dfs (shsOf tt) j) (shs := shsOf tt) rfl rfl F (fun q h => nomatch h) c23 rfl (b23 B (ft_move T) (lt_move Lt)) (fun ss => calls_succ rfl)
theorem up24 {j k : Nat} (F : Fun K "_law_passes" "_law_passes" s24 (fa 24) (fdd 24)) (B : ∀ x ∈ bnames, mg x = none) (T : FtOk (c00 P w K mg base k) (calls dfs (shsOf tt) j) (ft fa fdd) tt) (Lt : LtOk (c00 P w K mg base k) (calls dfs (shsOf tt) j) lt) : FnOk P w K mg base (L2.CX P w) (k + 2) (fa 24) (fdd 24) ["rule", "seats", "roll", "limits", "leader"] (spOf (c00 P w K mg base (k + 2)) (calls dfs (shsOf tt) (j + 1)) 24 5) :=
  df_ok (cd := none) (C0 := c00 P w K mg base (k + 2)) (exA := fun _ => none) (d := d24) (Φ := calls dfs (shsOf tt) j) (shs := shsOf tt) rfl rfl F (fun q h => nomatch h) c24 rfl (b24 B (ft_move T) (lt_move Lt)) (fun ss => calls_succ rfl)
theorem up25 {j k : Nat} (F : Fun K "_law_leaves" "_law_leaves" s25 (fa 25) (fdd 25)) (B : ∀ x ∈ bnames, mg x = none) (T : FtOk (c00 P w K mg base k) (calls dfs (shsOf tt) j) (ft fa fdd) tt) (Lt : LtOk (c00 P w K mg base k) (calls dfs (shsOf tt) j) lt) : FnOk P w K mg base (L2.CX P w) (k + 2) (fa 25) (fdd 25) ["rule"] (spOf (c00 P w K mg base (k + 2)) (calls dfs (shsOf tt) (j + 1)) 25 1) :=
  df_ok (cd := none) (C0 := c00 P w K mg base (k + 2)) (exA := fun _ => none) (d := d25) (Φ := calls dfs (shsOf tt) j) (shs := shsOf tt) rfl rfl F (fun q h => nomatch h) c25 rfl (b25 B (ft_move T) (lt_move Lt)) (fun ss => calls_succ rfl)
theorem up26 {j k : Nat} (F : Fun K "_law_chambers_of" "_law_chambers_of" s26 (fa 26) (fdd 26)) (B : ∀ x ∈ bnames, mg x = none) (T : FtOk (c00 P w K mg base k) (calls dfs (shsOf tt) j) (ft fa fdd) tt) (Lt : LtOk (c00 P w K mg base k) (calls dfs (shsOf tt) j) lt) : FnOk P w K mg base (L2.CX P w) (k + 2) (fa 26) (fdd 26) ["rule"] (spOf (c00 P w K mg base (k + 2)) (calls dfs (shsOf tt) (j + 1)) 26 1) :=
  df_ok (cd := none) (C0 := c00 P w K mg base (k + 2)) (exA := fun _ => none) (d := d26) (Φ := calls dfs (shsOf tt) j) (shs := shsOf tt) rfl rfl F (fun q h => nomatch h) c26 rfl (b26 B (ft_move T) (lt_move Lt)) (fun ss => calls_succ rfl)
theorem up27 {j k : Nat} (F : Fun K "_law_numbers_of" "_law_numbers_of" s27 (fa 27) (fdd 27)) (B : ∀ x ∈ bnames, mg x = none) (T : FtOk (c00 P w K mg base k) (calls dfs (shsOf tt) j) (ft fa fdd) tt) (Lt : LtOk (c00 P w K mg base k) (calls dfs (shsOf tt) j) lt) : FnOk P w K mg base (L2.CX P w) (k + 2) (fa 27) (fdd 27) ["rule"] (spOf (c00 P w K mg base (k + 2)) (calls dfs (shsOf tt) (j + 1)) 27 1) :=
  df_ok (cd := none) (C0 := c00 P w K mg base (k + 2)) (exA := fun _ => none) (d := d27) (Φ := calls dfs (shsOf tt) j) (shs := shsOf tt) rfl rfl F (fun q h => nomatch h) c27 rfl (b27 B (ft_move T) (lt_move Lt)) (fun ss => calls_succ rfl)
theorem up28 {j k : Nat} (F : Fun K "_law_other_limits" "_law_other_limits" s28 (fa 28) (fdd 28)) (B : ∀ x ∈ bnames, mg x = none) (T : FtOk (c00 P w K mg base k) (calls dfs (shsOf tt) j) (ft fa fdd) tt) (Lt : LtOk (c00 P w K mg base k) (calls dfs (shsOf tt) j) lt) : FnOk P w K mg base (L2.CX P w) (k + 2) (fa 28) (fdd 28) ["tape", "limits", "numbers"] (spOf (c00 P w K mg base (k + 2)) (calls dfs (shsOf tt) (j + 1)) 28 3) :=
  df_ok (cd := none) (C0 := c00 P w K mg base (k + 2)) (exA := fun _ => none) (d := d28) (Φ := calls dfs (shsOf tt) j) (shs := shsOf tt) rfl rfl F (fun q h => nomatch h) c28 rfl (b28 B (ft_move T) (lt_move Lt)) (fun ss => calls_succ rfl)
theorem up29 {j k : Nat} (F : Fun K "law" "law" s29 (fa 29) (fdd 29)) (B : ∀ x ∈ bnames, mg x = none) (T : FtOk (c00 P w K mg base k) (calls dfs (shsOf tt) j) (ft fa fdd) tt) (Lt : LtOk (c00 P w K mg base k) (calls dfs (shsOf tt) j) lt) : FnOk P w K mg base (L2.CX P w) (k + 2) (fa 29) (fdd 29) ["script"] (spOf (c00 P w K mg base (k + 2)) (calls dfs (shsOf tt) (j + 1)) 29 1) :=
  df_ok (cd := none) (C0 := c00 P w K mg base (k + 2)) (exA := fun _ => none) (d := d29) (Φ := calls dfs (shsOf tt) j) (shs := shsOf tt) rfl rfl F (fun q h => nomatch h) c29 rfl (b29 B (ft_move T) (lt_move Lt)) (fun ss => calls_succ rfl)
theorem lv {cc30 Pc30 : Addr} (F0 : Fun K "holders_of" "holders_of" s0 (fa 0) (fdd 0)) (F1 : Fun K "vote_of" "vote_of" s1 (fa 1) (fdd 1)) (F2 : Fun K "tally" "tally" s2 (fa 2) (fdd 2)) (F3 : Fun K "leaves" "leaves" s3 (fa 3) (fdd 3)) (F4 : Fun K "simple_passes" "simple_passes" s4 (fa 4) (fdd 4)) (F5 : Fun K "evaluate" "evaluate" s5 (fa 5) (fdd 5)) (F6 : Fun K "passes" "passes" s6 (fa 6) (fdd 6)) (F7 : Fun K "named" "named" s7 (fa 7) (fdd 7)) (F8 : Fun K "_threshold_value" "_threshold_value" s8 (fa 8) (fdd 8)) (F9 : Fun K "_denominator_value" "_denominator_value" s9 (fa 9) (fdd 9)) (F10 : Fun K "_law_tape" "_law_tape" s10 (fa 10) (fdd 10)) (F11 : Fun K "_law_draw" "_law_draw" s11 (fa 11) (fdd 11)) (F12 : Fun K "_law_same" "_law_same" s12 (fa 12) (fdd 12)) (F13 : Fun K "_law_holders" "_law_holders" s13 (fa 13) (fdd 13)) (F14 : Fun K "_law_seats" "_law_seats" s14 (fa 14) (fdd 14)) (F15 : Fun K "_law_roll" "_law_roll" s15 (fa 15) (fdd 15)) (F16 : Fun K "_law_tally" "_law_tally" s16 (fa 16) (fdd 16)) (F17 : Fun K "_law_limits" "_law_limits" s17 (fa 17) (fdd 17)) (F18 : Fun K "_law_leader" "_law_leader" s18 (fa 18) (fdd 18)) (F19 : Fun K "_law_threshold" "_law_threshold" s19 (fa 19) (fdd 19)) (F20 : Fun K "_law_simple" "_law_simple" s20 (fa 20) (fdd 20)) (F21 : Fun K "_law_rule" "_law_rule" s21 (fa 21) (fdd 21)) (F22 : Fun K "_law_limit" "_law_limit" s22 (fa 22) (fdd 22)) (F23 : Fun K "_law_by_counts" "_law_by_counts" s23 (fa 23) (fdd 23)) (F24 : Fun K "_law_passes" "_law_passes" s24 (fa 24) (fdd 24)) (F25 : Fun K "_law_leaves" "_law_leaves" s25 (fa 25) (fdd 25)) (F26 : Fun K "_law_chambers_of" "_law_chambers_of" s26 (fa 26) (fdd 26)) (F27 : Fun K "_law_numbers_of" "_law_numbers_of" s27 (fa 27) (fdd 27)) (F28 : Fun K "_law_other_limits" "_law_other_limits" s28 (fa 28) (fdd 28)) (F29 : Fun K "law" "law" s29 (fa 29) (fdd 29))
    (g0 : mg "holders_of" = some (.ref (fa 0))) (g1 : mg "vote_of" = some (.ref (fa 1))) (g2 : mg "tally" = some (.ref (fa 2))) (g3 : mg "leaves" = some (.ref (fa 3))) (g4 : mg "simple_passes" = some (.ref (fa 4))) (g5 : mg "evaluate" = some (.ref (fa 5))) (g6 : mg "passes" = some (.ref (fa 6))) (g7 : mg "named" = some (.ref (fa 7))) (g8 : mg "_threshold_value" = some (.ref (fa 8))) (g9 : mg "_denominator_value" = some (.ref (fa 9))) (g10 : mg "_law_tape" = some (.ref (fa 10))) (g11 : mg "_law_draw" = some (.ref (fa 11))) (g12 : mg "_law_same" = some (.ref (fa 12))) (g13 : mg "_law_holders" = some (.ref (fa 13))) (g14 : mg "_law_seats" = some (.ref (fa 14))) (g15 : mg "_law_roll" = some (.ref (fa 15))) (g16 : mg "_law_tally" = some (.ref (fa 16))) (g17 : mg "_law_limits" = some (.ref (fa 17))) (g18 : mg "_law_leader" = some (.ref (fa 18))) (g19 : mg "_law_threshold" = some (.ref (fa 19))) (g20 : mg "_law_simple" = some (.ref (fa 20))) (g21 : mg "_law_rule" = some (.ref (fa 21))) (g22 : mg "_law_limit" = some (.ref (fa 22))) (g23 : mg "_law_by_counts" = some (.ref (fa 23))) (g24 : mg "_law_passes" = some (.ref (fa 24))) (g25 : mg "_law_leaves" = some (.ref (fa 25))) (g26 : mg "_law_chambers_of" = some (.ref (fa 26))) (g27 : mg "_law_numbers_of" = some (.ref (fa 27))) (g28 : mg "_law_other_limits" = some (.ref (fa 28))) (g29 : mg "law" = some (.ref (fa 29)))
    (e0 : ShOk K (fdd 0) ["seats", "chamber"] [] 2 ((List.range 2).map .inl)) (e1 : ShOk K (fdd 1) ["roll_call", "member"] [] 2 ((List.range 2).map .inl)) (e2 : ShOk K (fdd 2) ["seats", "roll_call", "chamber"] [] 3 ((List.range 3).map .inl)) (e3 : ShOk K (fdd 3) ["rule"] [] 1 ((List.range 1).map .inl)) (e4 : ShOk K (fdd 4) ["rule", "counted", "parameters"] [] 3 ((List.range 3).map .inl)) (e5 : ShOk K (fdd 5) ["rule", "tally_at", "premier_agrees", "parameters"] [] 4 ((List.range 4).map .inl)) (e6 : ShOk K (fdd 6) ["rule", "seats", "roll_call", "parameters", "premier"] ["parameters", "premier"] 3 ((List.range 5).map .inl)) (e7 : ShOk K (fdd 7) ["rule"] [] 1 ((List.range 1).map .inl)) (e8 : ShOk K (fdd 8) ["threshold", "parameters"] [] 2 ((List.range 2).map .inl)) (e9 : ShOk K (fdd 9) ["denominator", "counted"] [] 2 ((List.range 2).map .inl)) (e10 : ShOk K (fdd 10) ["script"] [] 1 ((List.range 1).map .inl)) (e11 : ShOk K (fdd 11) ["tape", "many"] [] 2 ((List.range 2).map .inl)) (e12 : ShOk K (fdd 12) ["actual", "expected"] [] 2 ((List.range 2).map .inl)) (e13 : ShOk K (fdd 13) ["tape", "top"] [] 2 ((List.range 2).map .inl)) (e14 : ShOk K (fdd 14) ["tape", "most"] [] 2 ((List.range 2).map .inl)) (e15 : ShOk K (fdd 15) ["tape", "many"] [] 2 ((List.range 2).map .inl)) (e16 : ShOk K (fdd 16) ["seats", "roll", "chamber"] [] 3 ((List.range 3).map .inl)) (e17 : ShOk K (fdd 17) ["tape"] [] 1 ((List.range 1).map .inl)) (e18 : ShOk K (fdd 18) ["tape"] [] 1 ((List.range 1).map .inl)) (e19 : ShOk K (fdd 19) ["tape"] [] 1 ((List.range 1).map .inl)) (e20 : ShOk K (fdd 20) ["tape", "chambers", "kinds"] [] 3 ((List.range 3).map .inl)) (e21 : ShOk K (fdd 21) ["tape", "chambers", "kinds", "depth"] [] 4 ((List.range 4).map .inl)) (e22 : ShOk K (fdd 22) ["threshold", "limits"] [] 2 ((List.range 2).map .inl)) (e23 : ShOk K (fdd 23) ["rule", "counts", "limits"] [] 3 ((List.range 3).map .inl)) (e24 : ShOk K (fdd 24) ["rule", "seats", "roll", "limits", "leader"] [] 5 ((List.range 5).map .inl)) (e25 : ShOk K (fdd 25) ["rule"] [] 1 ((List.range 1).map .inl)) (e26 : ShOk K (fdd 26) ["rule"] [] 1 ((List.range 1).map .inl)) (e27 : ShOk K (fdd 27) ["rule"] [] 1 ((List.range 1).map .inl)) (e28 : ShOk K (fdd 28) ["tape", "limits", "numbers"] [] 3 ((List.range 3).map .inl)) (e29 : ShOk K (fdd 29) ["script"] [] 1 ((List.range 1).map .inl))
    (hc30 : (fdd 6).code = .ref cc30) (tb30 : TabB base mg cc30 Pc30) (me30 : (Pc30, lam30.qual) ∈ Tb.tabs) (un30 : ∀ p ∈ Tb.tabs, p.1 = Pc30 → p.2 = lam30.qual) (hL30 : Tb.lam 30 = some lam30) (hB30 : L2.Binds K (fdd 5) ["rule", "tally_at", "premier_agrees", "parameters"] [])
    (B : ∀ x ∈ bnames, mg x = none) (k : Nat) : FtOk (c00 P w K mg base (2 * k)) (calls dfs (shsOf tt) k) (ft fa fdd) tt ∧ LtOk (c00 P w K mg base (2 * k)) (calls dfs (shsOf tt) k) lt := by
  induction k with
  | zero =>
    refine ⟨⟨fun i fi h => ?_, sh_all e0 e1 e2 e3 e4 e5 e6 e7 e8 e9 e10 e11 e12 e13 e14 e15 e16 e17 e18 e19 e20 e21 e22 e23 e24 e25 e26 e27 e28 e29⟩, ⟨?_⟩⟩
    · match i, h with
      | 0, h => cases h; exact ⟨g0, F0.kp, fn_zero⟩
      | 1, h => cases h; exact ⟨g1, F1.kp, fn_zero⟩
      | 2, h => cases h; exact ⟨g2, F2.kp, fn_zero⟩
      | 3, h => cases h; exact ⟨g3, F3.kp, fn_zero⟩
      | 4, h => cases h; exact ⟨g4, F4.kp, fn_zero⟩
      | 5, h => cases h; exact ⟨g5, F5.kp, fn_zero⟩
      | 6, h => cases h; exact ⟨g6, F6.kp, fn_zero⟩
      | 7, h => cases h; exact ⟨g7, F7.kp, fn_zero⟩
      | 8, h => cases h; exact ⟨g8, F8.kp, fn_zero⟩
      | 9, h => cases h; exact ⟨g9, F9.kp, fn_zero⟩
      | 10, h => cases h; exact ⟨g10, F10.kp, fn_zero⟩
      | 11, h => cases h; exact ⟨g11, F11.kp, fn_zero⟩
      | 12, h => cases h; exact ⟨g12, F12.kp, fn_zero⟩
      | 13, h => cases h; exact ⟨g13, F13.kp, fn_zero⟩
      | 14, h => cases h; exact ⟨g14, F14.kp, fn_zero⟩
      | 15, h => cases h; exact ⟨g15, F15.kp, fn_zero⟩
      | 16, h => cases h; exact ⟨g16, F16.kp, fn_zero⟩
      | 17, h => cases h; exact ⟨g17, F17.kp, fn_zero⟩
      | 18, h => cases h; exact ⟨g18, F18.kp, fn_zero⟩
      | 19, h => cases h; exact ⟨g19, F19.kp, fn_zero⟩
      | 20, h => cases h; exact ⟨g20, F20.kp, fn_zero⟩
      | 21, h => cases h; exact ⟨g21, F21.kp, fn_zero⟩
      | 22, h => cases h; exact ⟨g22, F22.kp, fn_zero⟩
      | 23, h => cases h; exact ⟨g23, F23.kp, fn_zero⟩
      | 24, h => cases h; exact ⟨g24, F24.kp, fn_zero⟩
      | 25, h => cases h; exact ⟨g25, F25.kp, fn_zero⟩
      | 26, h => cases h; exact ⟨g26, F26.kp, fn_zero⟩
      | 27, h => cases h; exact ⟨g27, F27.kp, fn_zero⟩
      | 28, h => cases h; exact ⟨g28, F28.kp, fn_zero⟩
      | 29, h => cases h; exact ⟨g29, F29.kp, fn_zero⟩
      | i + 30, h => simp [ft, nms] at h
    · intro k0 n0 h
      unfold lt at h
      by_cases z30 : k0 = 30
      · rw [if_pos z30] at h; cases h; subst z30; exact ⟨lam30, hL30, lam_zero⟩
      rw [if_neg z30] at h
      cases h
  | succ k ih =>
    refine ⟨⟨fun i fi h => ?_, sh_all e0 e1 e2 e3 e4 e5 e6 e7 e8 e9 e10 e11 e12 e13 e14 e15 e16 e17 e18 e19 e20 e21 e22 e23 e24 e25 e26 e27 e28 e29⟩, ⟨?_⟩⟩
    · match i, h with
      | 0, h => cases h; exact ⟨g0, F0.kp, up0 F0 B ih.1 ih.2⟩
      | 1, h => cases h; exact ⟨g1, F1.kp, up1 F1 B ih.1 ih.2⟩
      | 2, h => cases h; exact ⟨g2, F2.kp, up2 F2 B ih.1 ih.2⟩
      | 3, h => cases h; exact ⟨g3, F3.kp, up3 F3 B ih.1 ih.2⟩
      | 4, h => cases h; exact ⟨g4, F4.kp, up4 F4 B ih.1 ih.2⟩
      | 5, h => cases h; exact ⟨g5, F5.kp, up5 F5 B ih.1 ih.2⟩
      | 6, h => cases h; exact ⟨g6, F6.kp, up6 F6 B ih.1 ih.2 hc30 tb30 me30 un30 hL30 hB30⟩
      | 7, h => cases h; exact ⟨g7, F7.kp, up7 F7 B ih.1 ih.2⟩
      | 8, h => cases h; exact ⟨g8, F8.kp, up8 F8 B ih.1 ih.2⟩
      | 9, h => cases h; exact ⟨g9, F9.kp, up9 F9 B ih.1 ih.2⟩
      | 10, h => cases h; exact ⟨g10, F10.kp, up10 F10 B ih.1 ih.2⟩
      | 11, h => cases h; exact ⟨g11, F11.kp, up11 F11 B ih.1 ih.2⟩
      | 12, h => cases h; exact ⟨g12, F12.kp, up12 F12 B ih.1 ih.2⟩
      | 13, h => cases h; exact ⟨g13, F13.kp, up13 F13 B ih.1 ih.2⟩
      | 14, h => cases h; exact ⟨g14, F14.kp, up14 F14 B ih.1 ih.2⟩
      | 15, h => cases h; exact ⟨g15, F15.kp, up15 F15 B ih.1 ih.2⟩
      | 16, h => cases h; exact ⟨g16, F16.kp, up16 F16 B ih.1 ih.2⟩
      | 17, h => cases h; exact ⟨g17, F17.kp, up17 F17 B ih.1 ih.2⟩
      | 18, h => cases h; exact ⟨g18, F18.kp, up18 F18 B ih.1 ih.2⟩
      | 19, h => cases h; exact ⟨g19, F19.kp, up19 F19 B ih.1 ih.2⟩
      | 20, h => cases h; exact ⟨g20, F20.kp, up20 F20 B ih.1 ih.2⟩
      | 21, h => cases h; exact ⟨g21, F21.kp, up21 F21 B ih.1 ih.2⟩
      | 22, h => cases h; exact ⟨g22, F22.kp, up22 F22 B ih.1 ih.2⟩
      | 23, h => cases h; exact ⟨g23, F23.kp, up23 F23 B ih.1 ih.2⟩
      | 24, h => cases h; exact ⟨g24, F24.kp, up24 F24 B ih.1 ih.2⟩
      | 25, h => cases h; exact ⟨g25, F25.kp, up25 F25 B ih.1 ih.2⟩
      | 26, h => cases h; exact ⟨g26, F26.kp, up26 F26 B ih.1 ih.2⟩
      | 27, h => cases h; exact ⟨g27, F27.kp, up27 F27 B ih.1 ih.2⟩
      | 28, h => cases h; exact ⟨g28, F28.kp, up28 F28 B ih.1 ih.2⟩
      | 29, h => cases h; exact ⟨g29, F29.kp, up29 F29 B ih.1 ih.2⟩
      | i + 30, h => simp [ft, nms] at h
    · intro k0 n0 h
      unfold lt at h
      by_cases z30 : k0 = 30
      · rw [if_pos z30] at h; cases h; subst z30; exact ⟨lam30, hL30, up30 B ih.1⟩
      rw [if_neg z30] at h
      cases h
end
theorem all_mk {l : PySem.W.OpenLaw} {w : World} {K : PySem.W.Frag} {h : Heap} {mg : Str → Option Value} {fl : Addr} (X : K.In h) (G : h.Ns mainGlobals mg) (hfa : mg "law" = some (.ref fl))
    {f0 f1 f2 f3 f4 f5 f6 f7 f8 f9 f10 f11 f12 f13 f14 f15 f16 f17 f18 f19 f20 f21 f22 f23 f24 f25 f26 f27 f28 f29 : Addr} {od0 an0 od1 an1 od2 an2 od3 an3 od4 an4 od5 an5 od6 an6 od7 an7 od8 an8 od9 an9 od10 an10 od11 an11 od12 an12 od13 an13 od14 an14 od15 an15 od16 an16 od17 an17 od18 an18 od19 an19 od20 an20 od21 an21 od22 an22 od23 an23 od24 an24 od25 an25 od26 an26 od27 an27 od28 an28 od29 an29 : Option Addr} {sl0 sl1 sl2 sl3 sl4 sl5 sl6 sl7 sl8 sl9 sl10 sl11 sl12 sl13 sl14 sl15 sl16 sl17 sl18 sl19 sl20 sl21 sl22 sl23 sl24 sl25 sl26 sl27 sl28 sl29 : Array (Option Value)} {oc0 dc0 pm0 ct0 kV0 cd0 oc1 dc1 pm1 ct1 kV1 cd1 oc2 dc2 pm2 ct2 kV2 cd2 oc3 dc3 pm3 ct3 kV3 cd3 oc4 dc4 pm4 ct4 kV4 cd4 oc5 dc5 pm5 ct5 kV5 cd5 oc6 dc6 pm6 ct6 oc7 dc7 pm7 ct7 kV7 cd7 oc8 dc8 pm8 ct8 kV8 cd8 oc9 dc9 pm9 ct9 kV9 cd9 oc10 dc10 pm10 ct10 kV10 cd10 oc11 dc11 pm11 ct11 kV11 cd11 oc12 dc12 pm12 ct12 kV12 cd12 oc13 dc13 pm13 ct13 kV13 cd13 oc14 dc14 pm14 ct14 kV14 cd14 oc15 dc15 pm15 ct15 kV15 cd15 oc16 dc16 pm16 ct16 kV16 cd16 oc17 dc17 pm17 ct17 kV17 cd17 oc18 dc18 pm18 ct18 kV18 cd18 oc19 dc19 pm19 ct19 kV19 cd19 oc20 dc20 pm20 ct20 kV20 cd20 oc21 dc21 pm21 ct21 kV21 cd21 oc22 dc22 pm22 ct22 kV22 cd22 oc23 dc23 pm23 ct23 kV23 cd23 oc24 dc24 pm24 ct24 kV24 cd24 oc25 dc25 pm25 ct25 kV25 cd25 oc26 dc26 pm26 ct26 kV26 cd26 oc27 dc27 pm27 ct27 kV27 cd27 oc28 dc28 pm28 ct28 kV28 cd28 oc29 dc29 pm29 ct29 kV29 cd29 : Value} {aZ6 kd6 co30 Pc30 : Addr}
    (a0 : PySem.W.nsIn K mainGlobals "holders_of" = some (some (.ref f0))) (l0 : K.lookup f0 = some ⟨oc0, od0, .func (PySem.W.fnOf "holders_of" "holders_of" (defArgs s0) (defBody s0) (defScope s0) .none kV0 dc0 pm0 an0 cd0 ct0), sl0⟩) (q0 : PySem.W.codeIn K cd0 "holders_of" = true) (k0 : PySem.W.keepIn K (.ref f0) = true)
    (a1 : PySem.W.nsIn K mainGlobals "vote_of" = some (some (.ref f1))) (l1 : K.lookup f1 = some ⟨oc1, od1, .func (PySem.W.fnOf "vote_of" "vote_of" (defArgs s1) (defBody s1) (defScope s1) .none kV1 dc1 pm1 an1 cd1 ct1), sl1⟩) (q1 : PySem.W.codeIn K cd1 "vote_of" = true) (k1 : PySem.W.keepIn K (.ref f1) = true)
    (a2 : PySem.W.nsIn K mainGlobals "tally" = some (some (.ref f2))) (l2 : K.lookup f2 = some ⟨oc2, od2, .func (PySem.W.fnOf "tally" "tally" (defArgs s2) (defBody s2) (defScope s2) .none kV2 dc2 pm2 an2 cd2 ct2), sl2⟩) (q2 : PySem.W.codeIn K cd2 "tally" = true) (k2 : PySem.W.keepIn K (.ref f2) = true)
    (a3 : PySem.W.nsIn K mainGlobals "leaves" = some (some (.ref f3))) (l3 : K.lookup f3 = some ⟨oc3, od3, .func (PySem.W.fnOf "leaves" "leaves" (defArgs s3) (defBody s3) (defScope s3) .none kV3 dc3 pm3 an3 cd3 ct3), sl3⟩) (q3 : PySem.W.codeIn K cd3 "leaves" = true) (k3 : PySem.W.keepIn K (.ref f3) = true)
    (a4 : PySem.W.nsIn K mainGlobals "simple_passes" = some (some (.ref f4))) (l4 : K.lookup f4 = some ⟨oc4, od4, .func (PySem.W.fnOf "simple_passes" "simple_passes" (defArgs s4) (defBody s4) (defScope s4) .none kV4 dc4 pm4 an4 cd4 ct4), sl4⟩) (q4 : PySem.W.codeIn K cd4 "simple_passes" = true) (k4 : PySem.W.keepIn K (.ref f4) = true)
    (a5 : PySem.W.nsIn K mainGlobals "evaluate" = some (some (.ref f5))) (l5 : K.lookup f5 = some ⟨oc5, od5, .func (PySem.W.fnOf "evaluate" "evaluate" (defArgs s5) (defBody s5) (defScope s5) .none kV5 dc5 pm5 an5 cd5 ct5), sl5⟩) (q5 : PySem.W.codeIn K cd5 "evaluate" = true) (k5 : PySem.W.keepIn K (.ref f5) = true)
    (a6 : PySem.W.nsIn K mainGlobals "passes" = some (some (.ref f6))) (l6 : K.lookup f6 = some ⟨oc6, od6, .func (PySem.W.fnOf "passes" "passes" (defArgs s6) (defBody s6) (defScope s6) .none (.ref kd6) dc6 pm6 an6 (.ref co30) ct6), sl6⟩) (q6 : PySem.W.codeIn K (.ref co30) "passes" = true) (k6 : PySem.W.keepIn K (.ref f6) = true)
    (a7 : PySem.W.nsIn K mainGlobals "named" = some (some (.ref f7))) (l7 : K.lookup f7 = some ⟨oc7, od7, .func (PySem.W.fnOf "named" "named" (defArgs s7) (defBody s7) (defScope s7) .none kV7 dc7 pm7 an7 cd7 ct7), sl7⟩) (q7 : PySem.W.codeIn K cd7 "named" = true) (k7 : PySem.W.keepIn K (.ref f7) = true)
    (a8 : PySem.W.nsIn K mainGlobals "_threshold_value" = some (some (.ref f8))) (l8 : K.lookup f8 = some ⟨oc8, od8, .func (PySem.W.fnOf "_threshold_value" "_threshold_value" (defArgs s8) (defBody s8) (defScope s8) .none kV8 dc8 pm8 an8 cd8 ct8), sl8⟩) (q8 : PySem.W.codeIn K cd8 "_threshold_value" = true) (k8 : PySem.W.keepIn K (.ref f8) = true)
    (a9 : PySem.W.nsIn K mainGlobals "_denominator_value" = some (some (.ref f9))) (l9 : K.lookup f9 = some ⟨oc9, od9, .func (PySem.W.fnOf "_denominator_value" "_denominator_value" (defArgs s9) (defBody s9) (defScope s9) .none kV9 dc9 pm9 an9 cd9 ct9), sl9⟩) (q9 : PySem.W.codeIn K cd9 "_denominator_value" = true) (k9 : PySem.W.keepIn K (.ref f9) = true)
    (a10 : PySem.W.nsIn K mainGlobals "_law_tape" = some (some (.ref f10))) (l10 : K.lookup f10 = some ⟨oc10, od10, .func (PySem.W.fnOf "_law_tape" "_law_tape" (defArgs s10) (defBody s10) (defScope s10) .none kV10 dc10 pm10 an10 cd10 ct10), sl10⟩) (q10 : PySem.W.codeIn K cd10 "_law_tape" = true) (k10 : PySem.W.keepIn K (.ref f10) = true)
    (a11 : PySem.W.nsIn K mainGlobals "_law_draw" = some (some (.ref f11))) (l11 : K.lookup f11 = some ⟨oc11, od11, .func (PySem.W.fnOf "_law_draw" "_law_draw" (defArgs s11) (defBody s11) (defScope s11) .none kV11 dc11 pm11 an11 cd11 ct11), sl11⟩) (q11 : PySem.W.codeIn K cd11 "_law_draw" = true) (k11 : PySem.W.keepIn K (.ref f11) = true)
    (a12 : PySem.W.nsIn K mainGlobals "_law_same" = some (some (.ref f12))) (l12 : K.lookup f12 = some ⟨oc12, od12, .func (PySem.W.fnOf "_law_same" "_law_same" (defArgs s12) (defBody s12) (defScope s12) .none kV12 dc12 pm12 an12 cd12 ct12), sl12⟩) (q12 : PySem.W.codeIn K cd12 "_law_same" = true) (k12 : PySem.W.keepIn K (.ref f12) = true)
    (a13 : PySem.W.nsIn K mainGlobals "_law_holders" = some (some (.ref f13))) (l13 : K.lookup f13 = some ⟨oc13, od13, .func (PySem.W.fnOf "_law_holders" "_law_holders" (defArgs s13) (defBody s13) (defScope s13) .none kV13 dc13 pm13 an13 cd13 ct13), sl13⟩) (q13 : PySem.W.codeIn K cd13 "_law_holders" = true) (k13 : PySem.W.keepIn K (.ref f13) = true)
    (a14 : PySem.W.nsIn K mainGlobals "_law_seats" = some (some (.ref f14))) (l14 : K.lookup f14 = some ⟨oc14, od14, .func (PySem.W.fnOf "_law_seats" "_law_seats" (defArgs s14) (defBody s14) (defScope s14) .none kV14 dc14 pm14 an14 cd14 ct14), sl14⟩) (q14 : PySem.W.codeIn K cd14 "_law_seats" = true) (k14 : PySem.W.keepIn K (.ref f14) = true)
    (a15 : PySem.W.nsIn K mainGlobals "_law_roll" = some (some (.ref f15))) (l15 : K.lookup f15 = some ⟨oc15, od15, .func (PySem.W.fnOf "_law_roll" "_law_roll" (defArgs s15) (defBody s15) (defScope s15) .none kV15 dc15 pm15 an15 cd15 ct15), sl15⟩) (q15 : PySem.W.codeIn K cd15 "_law_roll" = true) (k15 : PySem.W.keepIn K (.ref f15) = true)
    (a16 : PySem.W.nsIn K mainGlobals "_law_tally" = some (some (.ref f16))) (l16 : K.lookup f16 = some ⟨oc16, od16, .func (PySem.W.fnOf "_law_tally" "_law_tally" (defArgs s16) (defBody s16) (defScope s16) .none kV16 dc16 pm16 an16 cd16 ct16), sl16⟩) (q16 : PySem.W.codeIn K cd16 "_law_tally" = true) (k16 : PySem.W.keepIn K (.ref f16) = true)
    (a17 : PySem.W.nsIn K mainGlobals "_law_limits" = some (some (.ref f17))) (l17 : K.lookup f17 = some ⟨oc17, od17, .func (PySem.W.fnOf "_law_limits" "_law_limits" (defArgs s17) (defBody s17) (defScope s17) .none kV17 dc17 pm17 an17 cd17 ct17), sl17⟩) (q17 : PySem.W.codeIn K cd17 "_law_limits" = true) (k17 : PySem.W.keepIn K (.ref f17) = true)
    (a18 : PySem.W.nsIn K mainGlobals "_law_leader" = some (some (.ref f18))) (l18 : K.lookup f18 = some ⟨oc18, od18, .func (PySem.W.fnOf "_law_leader" "_law_leader" (defArgs s18) (defBody s18) (defScope s18) .none kV18 dc18 pm18 an18 cd18 ct18), sl18⟩) (q18 : PySem.W.codeIn K cd18 "_law_leader" = true) (k18 : PySem.W.keepIn K (.ref f18) = true)
    (a19 : PySem.W.nsIn K mainGlobals "_law_threshold" = some (some (.ref f19))) (l19 : K.lookup f19 = some ⟨oc19, od19, .func (PySem.W.fnOf "_law_threshold" "_law_threshold" (defArgs s19) (defBody s19) (defScope s19) .none kV19 dc19 pm19 an19 cd19 ct19), sl19⟩) (q19 : PySem.W.codeIn K cd19 "_law_threshold" = true) (k19 : PySem.W.keepIn K (.ref f19) = true)
    (a20 : PySem.W.nsIn K mainGlobals "_law_simple" = some (some (.ref f20))) (l20 : K.lookup f20 = some ⟨oc20, od20, .func (PySem.W.fnOf "_law_simple" "_law_simple" (defArgs s20) (defBody s20) (defScope s20) .none kV20 dc20 pm20 an20 cd20 ct20), sl20⟩) (q20 : PySem.W.codeIn K cd20 "_law_simple" = true) (k20 : PySem.W.keepIn K (.ref f20) = true)
    (a21 : PySem.W.nsIn K mainGlobals "_law_rule" = some (some (.ref f21))) (l21 : K.lookup f21 = some ⟨oc21, od21, .func (PySem.W.fnOf "_law_rule" "_law_rule" (defArgs s21) (defBody s21) (defScope s21) .none kV21 dc21 pm21 an21 cd21 ct21), sl21⟩) (q21 : PySem.W.codeIn K cd21 "_law_rule" = true) (k21 : PySem.W.keepIn K (.ref f21) = true)
    (a22 : PySem.W.nsIn K mainGlobals "_law_limit" = some (some (.ref f22))) (l22 : K.lookup f22 = some ⟨oc22, od22, .func (PySem.W.fnOf "_law_limit" "_law_limit" (defArgs s22) (defBody s22) (defScope s22) .none kV22 dc22 pm22 an22 cd22 ct22), sl22⟩) (q22 : PySem.W.codeIn K cd22 "_law_limit" = true) (k22 : PySem.W.keepIn K (.ref f22) = true)
    (a23 : PySem.W.nsIn K mainGlobals "_law_by_counts" = some (some (.ref f23))) (l23 : K.lookup f23 = some ⟨oc23, od23, .func (PySem.W.fnOf "_law_by_counts" "_law_by_counts" (defArgs s23) (defBody s23) (defScope s23) .none kV23 dc23 pm23 an23 cd23 ct23), sl23⟩) (q23 : PySem.W.codeIn K cd23 "_law_by_counts" = true) (k23 : PySem.W.keepIn K (.ref f23) = true)
    (a24 : PySem.W.nsIn K mainGlobals "_law_passes" = some (some (.ref f24))) (l24 : K.lookup f24 = some ⟨oc24, od24, .func (PySem.W.fnOf "_law_passes" "_law_passes" (defArgs s24) (defBody s24) (defScope s24) .none kV24 dc24 pm24 an24 cd24 ct24), sl24⟩) (q24 : PySem.W.codeIn K cd24 "_law_passes" = true) (k24 : PySem.W.keepIn K (.ref f24) = true)
    (a25 : PySem.W.nsIn K mainGlobals "_law_leaves" = some (some (.ref f25))) (l25 : K.lookup f25 = some ⟨oc25, od25, .func (PySem.W.fnOf "_law_leaves" "_law_leaves" (defArgs s25) (defBody s25) (defScope s25) .none kV25 dc25 pm25 an25 cd25 ct25), sl25⟩) (q25 : PySem.W.codeIn K cd25 "_law_leaves" = true) (k25 : PySem.W.keepIn K (.ref f25) = true)
    (a26 : PySem.W.nsIn K mainGlobals "_law_chambers_of" = some (some (.ref f26))) (l26 : K.lookup f26 = some ⟨oc26, od26, .func (PySem.W.fnOf "_law_chambers_of" "_law_chambers_of" (defArgs s26) (defBody s26) (defScope s26) .none kV26 dc26 pm26 an26 cd26 ct26), sl26⟩) (q26 : PySem.W.codeIn K cd26 "_law_chambers_of" = true) (k26 : PySem.W.keepIn K (.ref f26) = true)
    (a27 : PySem.W.nsIn K mainGlobals "_law_numbers_of" = some (some (.ref f27))) (l27 : K.lookup f27 = some ⟨oc27, od27, .func (PySem.W.fnOf "_law_numbers_of" "_law_numbers_of" (defArgs s27) (defBody s27) (defScope s27) .none kV27 dc27 pm27 an27 cd27 ct27), sl27⟩) (q27 : PySem.W.codeIn K cd27 "_law_numbers_of" = true) (k27 : PySem.W.keepIn K (.ref f27) = true)
    (a28 : PySem.W.nsIn K mainGlobals "_law_other_limits" = some (some (.ref f28))) (l28 : K.lookup f28 = some ⟨oc28, od28, .func (PySem.W.fnOf "_law_other_limits" "_law_other_limits" (defArgs s28) (defBody s28) (defScope s28) .none kV28 dc28 pm28 an28 cd28 ct28), sl28⟩) (q28 : PySem.W.codeIn K cd28 "_law_other_limits" = true) (k28 : PySem.W.keepIn K (.ref f28) = true)
    (a29 : PySem.W.nsIn K mainGlobals "law" = some (some (.ref f29))) (l29 : K.lookup f29 = some ⟨oc29, od29, .func (PySem.W.fnOf "law" "law" (defArgs s29) (defBody s29) (defScope s29) .none kV29 dc29 pm29 an29 cd29 ct29), sl29⟩) (q29 : PySem.W.codeIn K cd29 "law" = true) (k29 : PySem.W.keepIn K (.ref f29) = true)
    {nZ6 : Nat} {sZ6 : Array (Option Value)} {oC30 : Option Addr} {vC30 : Array Value} {sC30 : Array (Option Value)}
    (u6_parameters : PySem.W.nsIn K kd6 "parameters" = some (some (.ref aZ6))) (eZ6 : K.lookup aZ6 = some ⟨.type "tuple", none, .seq #[] nZ6, sZ6⟩) (u6_premier : PySem.W.nsIn K kd6 "premier" = some (some .none)) (xC30 : K.lookup co30 = some ⟨.type "code", oC30, .fields vC30, sC30⟩) (rC30 : vC30[11]? = some (.ref Pc30)) (hC30 : PySem.W.codeHdIn K co30 Pc30 = true) (nC30 : K.lookup Pc30 = none) (tC30 : h.get? Pc30 = some (PySem.W.tabObj #[]))
    (z0 : PySem.W.nsIn K mainGlobals "len" = some none) (z1 : PySem.W.nsIn K mainGlobals "abs" = some none) (z2 : PySem.W.nsIn K mainGlobals "int" = some none) (z3 : PySem.W.nsIn K mainGlobals "tuple" = some none) (z4 : PySem.W.nsIn K mainGlobals "list" = some none) (z5 : PySem.W.nsIn K mainGlobals "max" = some none) (z6 : PySem.W.nsIn K mainGlobals "min" = some none) (z7 : PySem.W.nsIn K mainGlobals "sum" = some none) (z8 : PySem.W.nsIn K mainGlobals "any" = some none) (z9 : PySem.W.nsIn K mainGlobals "all" = some none) (z10 : PySem.W.nsIn K mainGlobals "isinstance" = some none) (z11 : PySem.W.nsIn K mainGlobals "bool" = some none) (z12 : PySem.W.nsIn K mainGlobals "str" = some none) (z13 : PySem.W.nsIn K mainGlobals "range" = some none) (z14 : PySem.W.nsIn K mainGlobals "zip" = some none) (z15 : PySem.W.nsIn K mainGlobals "enumerate" = some none) (z16 : PySem.W.nsIn K mainGlobals "reversed" = some none) (z17 : PySem.W.nsIn K mainGlobals "sorted" = some none) (z18 : PySem.W.nsIn K mainGlobals "set" = some none) (z19 : PySem.W.nsIn K mainGlobals "dict" = some none) (z20 : PySem.W.nsIn K mainGlobals "divmod" = some none)
    (pure : ∀ ns : List Int, ns.length ≤ 63 → ∃ outs, calls dfs (shsOf tt) 100 29 [.val (.scr ns)] = .ok (.val (.bl true)) outs) :
    LamX.LawAtS l w K (L2.CX l.prog w) 200 63 "script" mg fl h := by
  letI tbI : Tb := ⟨[(Pc30, lam30.qual)], lamF⟩
  have e := hfa.symm.trans (PySem.W.mg_of X G a29)
  cases e
  have F0 := fun_mk (st := s0) l0 q0 k0
  have b0 := F0.binds (ps := ["seats", "chamber"]) fun _ _ _ _ _ _ us hl => match us, hl with | [_, _], _ => rfl
  have F1 := fun_mk (st := s1) l1 q1 k1
  have b1 := F1.binds (ps := ["roll_call", "member"]) fun _ _ _ _ _ _ us hl => match us, hl with | [_, _], _ => rfl
  have F2 := fun_mk (st := s2) l2 q2 k2
  have b2 := F2.binds (ps := ["seats", "roll_call", "chamber"]) fun _ _ _ _ _ _ us hl => match us, hl with | [_, _, _], _ => rfl
  have F3 := fun_mk (st := s3) l3 q3 k3
  have b3 := F3.binds (ps := ["rule"]) fun _ _ _ _ _ _ us hl => match us, hl with | [_], _ => rfl
  have F4 := fun_mk (st := s4) l4 q4 k4
  have b4 := F4.binds (ps := ["rule", "counted", "parameters"]) fun _ _ _ _ _ _ us hl => match us, hl with | [_, _, _], _ => rfl
  have F5 := fun_mk (st := s5) l5 q5 k5
  have b5 := F5.binds (ps := ["rule", "tally_at", "premier_agrees", "parameters"]) fun _ _ _ _ _ _ us hl => match us, hl with | [_, _, _, _], _ => rfl
  have F6 := fun_mk (st := s6) l6 q6 k6
  have D6 : FunD K "passes" "passes" (defArgs s6) (defBody s6) (defScope s6) [] [("parameters", V.ref aZ6), ("premier", V.non)] f6 (PySem.W.fnOf "passes" "passes" (defArgs s6) (defBody s6) (defScope s6) .none (.ref kd6) dc6 pm6 an6 (.ref co30) ct6) := ⟨⟨_, _, _, _, _, _, _, _, _, _, rfl, l6, q6, .inl ⟨rfl, rfl⟩, .inr ⟨kd6, rfl, by
    intro q hq
    simp only [List.mem_cons, List.not_mem_nil, or_false] at hq
    rcases hq with rfl | rfl
    · exact ⟨_, u6_parameters, rfl⟩
    · exact ⟨_, u6_premier, rfl⟩
    ⟩⟩, k6⟩
  have b6 := kwbinds (ps := ["rule", "seats", "roll_call", "parameters", "premier"]) (ks := ["parameters", "premier"]) 3 F6 fun _ _ _ _ _ _ us ws h1 h2 => match us, h1, ws, h2 with | [_, _, _], _, [_, _], _ => rfl
  have F7 := fun_mk (st := s7) l7 q7 k7
  have b7 := F7.binds (ps := ["rule"]) fun _ _ _ _ _ _ us hl => match us, hl with | [_], _ => rfl
  have F8 := fun_mk (st := s8) l8 q8 k8
  have b8 := F8.binds (ps := ["threshold", "parameters"]) fun _ _ _ _ _ _ us hl => match us, hl with | [_, _], _ => rfl
  have F9 := fun_mk (st := s9) l9 q9 k9
  have b9 := F9.binds (ps := ["denominator", "counted"]) fun _ _ _ _ _ _ us hl => match us, hl with | [_, _], _ => rfl
  have F10 := fun_mk (st := s10) l10 q10 k10
  have b10 := F10.binds (ps := ["script"]) fun _ _ _ _ _ _ us hl => match us, hl with | [_], _ => rfl
  have F11 := fun_mk (st := s11) l11 q11 k11
  have b11 := F11.binds (ps := ["tape", "many"]) fun _ _ _ _ _ _ us hl => match us, hl with | [_, _], _ => rfl
  have F12 := fun_mk (st := s12) l12 q12 k12
  have b12 := F12.binds (ps := ["actual", "expected"]) fun _ _ _ _ _ _ us hl => match us, hl with | [_, _], _ => rfl
  have F13 := fun_mk (st := s13) l13 q13 k13
  have b13 := F13.binds (ps := ["tape", "top"]) fun _ _ _ _ _ _ us hl => match us, hl with | [_, _], _ => rfl
  have F14 := fun_mk (st := s14) l14 q14 k14
  have b14 := F14.binds (ps := ["tape", "most"]) fun _ _ _ _ _ _ us hl => match us, hl with | [_, _], _ => rfl
  have F15 := fun_mk (st := s15) l15 q15 k15
  have b15 := F15.binds (ps := ["tape", "many"]) fun _ _ _ _ _ _ us hl => match us, hl with | [_, _], _ => rfl
  have F16 := fun_mk (st := s16) l16 q16 k16
  have b16 := F16.binds (ps := ["seats", "roll", "chamber"]) fun _ _ _ _ _ _ us hl => match us, hl with | [_, _, _], _ => rfl
  have F17 := fun_mk (st := s17) l17 q17 k17
  have b17 := F17.binds (ps := ["tape"]) fun _ _ _ _ _ _ us hl => match us, hl with | [_], _ => rfl
  have F18 := fun_mk (st := s18) l18 q18 k18
  have b18 := F18.binds (ps := ["tape"]) fun _ _ _ _ _ _ us hl => match us, hl with | [_], _ => rfl
  have F19 := fun_mk (st := s19) l19 q19 k19
  have b19 := F19.binds (ps := ["tape"]) fun _ _ _ _ _ _ us hl => match us, hl with | [_], _ => rfl
  have F20 := fun_mk (st := s20) l20 q20 k20
  have b20 := F20.binds (ps := ["tape", "chambers", "kinds"]) fun _ _ _ _ _ _ us hl => match us, hl with | [_, _, _], _ => rfl
  have F21 := fun_mk (st := s21) l21 q21 k21
  have b21 := F21.binds (ps := ["tape", "chambers", "kinds", "depth"]) fun _ _ _ _ _ _ us hl => match us, hl with | [_, _, _, _], _ => rfl
  have F22 := fun_mk (st := s22) l22 q22 k22
  have b22 := F22.binds (ps := ["threshold", "limits"]) fun _ _ _ _ _ _ us hl => match us, hl with | [_, _], _ => rfl
  have F23 := fun_mk (st := s23) l23 q23 k23
  have b23 := F23.binds (ps := ["rule", "counts", "limits"]) fun _ _ _ _ _ _ us hl => match us, hl with | [_, _, _], _ => rfl
  have F24 := fun_mk (st := s24) l24 q24 k24
  have b24 := F24.binds (ps := ["rule", "seats", "roll", "limits", "leader"]) fun _ _ _ _ _ _ us hl => match us, hl with | [_, _, _, _, _], _ => rfl
  have F25 := fun_mk (st := s25) l25 q25 k25
  have b25 := F25.binds (ps := ["rule"]) fun _ _ _ _ _ _ us hl => match us, hl with | [_], _ => rfl
  have F26 := fun_mk (st := s26) l26 q26 k26
  have b26 := F26.binds (ps := ["rule"]) fun _ _ _ _ _ _ us hl => match us, hl with | [_], _ => rfl
  have F27 := fun_mk (st := s27) l27 q27 k27
  have b27 := F27.binds (ps := ["rule"]) fun _ _ _ _ _ _ us hl => match us, hl with | [_], _ => rfl
  have F28 := fun_mk (st := s28) l28 q28 k28
  have b28 := F28.binds (ps := ["tape", "limits", "numbers"]) fun _ _ _ _ _ _ us hl => match us, hl with | [_, _, _], _ => rfl
  have F29 := fun_mk (st := s29) l29 q29 k29
  have b29 := F29.binds (ps := ["script"]) fun _ _ _ _ _ _ us hl => match us, hl with | [_], _ => rfl
  let fa : Nat → Addr := fun i => match i with | 0 => f0 | 1 => f1 | 2 => f2 | 3 => f3 | 4 => f4 | 5 => f5 | 6 => f6 | 7 => f7 | 8 => f8 | 9 => f9 | 10 => f10 | 11 => f11 | 12 => f12 | 13 => f13 | 14 => f14 | 15 => f15 | 16 => f16 | 17 => f17 | 18 => f18 | 19 => f19 | 20 => f20 | 21 => f21 | 22 => f22 | 23 => f23 | 24 => f24 | 25 => f25 | 26 => f26 | 27 => f27 | 28 => f28 | _ => fl
  let fdd : Nat → FuncData := fun i => match i with | 0 => PySem.W.fnOf "holders_of" "holders_of" (defArgs s0) (defBody s0) (defScope s0) .none kV0 dc0 pm0 an0 cd0 ct0 | 1 => PySem.W.fnOf "vote_of" "vote_of" (defArgs s1) (defBody s1) (defScope s1) .none kV1 dc1 pm1 an1 cd1 ct1 | 2 => PySem.W.fnOf "tally" "tally" (defArgs s2) (defBody s2) (defScope s2) .none kV2 dc2 pm2 an2 cd2 ct2 | 3 => PySem.W.fnOf "leaves" "leaves" (defArgs s3) (defBody s3) (defScope s3) .none kV3 dc3 pm3 an3 cd3 ct3 | 4 => PySem.W.fnOf "simple_passes" "simple_passes" (defArgs s4) (defBody s4) (defScope s4) .none kV4 dc4 pm4 an4 cd4 ct4 | 5 => PySem.W.fnOf "evaluate" "evaluate" (defArgs s5) (defBody s5) (defScope s5) .none kV5 dc5 pm5 an5 cd5 ct5 | 6 => PySem.W.fnOf "passes" "passes" (defArgs s6) (defBody s6) (defScope s6) .none (.ref kd6) dc6 pm6 an6 (.ref co30) ct6 | 7 => PySem.W.fnOf "named" "named" (defArgs s7) (defBody s7) (defScope s7) .none kV7 dc7 pm7 an7 cd7 ct7 | 8 => PySem.W.fnOf "_threshold_value" "_threshold_value" (defArgs s8) (defBody s8) (defScope s8) .none kV8 dc8 pm8 an8 cd8 ct8 | 9 => PySem.W.fnOf "_denominator_value" "_denominator_value" (defArgs s9) (defBody s9) (defScope s9) .none kV9 dc9 pm9 an9 cd9 ct9 | 10 => PySem.W.fnOf "_law_tape" "_law_tape" (defArgs s10) (defBody s10) (defScope s10) .none kV10 dc10 pm10 an10 cd10 ct10 | 11 => PySem.W.fnOf "_law_draw" "_law_draw" (defArgs s11) (defBody s11) (defScope s11) .none kV11 dc11 pm11 an11 cd11 ct11 | 12 => PySem.W.fnOf "_law_same" "_law_same" (defArgs s12) (defBody s12) (defScope s12) .none kV12 dc12 pm12 an12 cd12 ct12 | 13 => PySem.W.fnOf "_law_holders" "_law_holders" (defArgs s13) (defBody s13) (defScope s13) .none kV13 dc13 pm13 an13 cd13 ct13 | 14 => PySem.W.fnOf "_law_seats" "_law_seats" (defArgs s14) (defBody s14) (defScope s14) .none kV14 dc14 pm14 an14 cd14 ct14 | 15 => PySem.W.fnOf "_law_roll" "_law_roll" (defArgs s15) (defBody s15) (defScope s15) .none kV15 dc15 pm15 an15 cd15 ct15 | 16 => PySem.W.fnOf "_law_tally" "_law_tally" (defArgs s16) (defBody s16) (defScope s16) .none kV16 dc16 pm16 an16 cd16 ct16 | 17 => PySem.W.fnOf "_law_limits" "_law_limits" (defArgs s17) (defBody s17) (defScope s17) .none kV17 dc17 pm17 an17 cd17 ct17 | 18 => PySem.W.fnOf "_law_leader" "_law_leader" (defArgs s18) (defBody s18) (defScope s18) .none kV18 dc18 pm18 an18 cd18 ct18 | 19 => PySem.W.fnOf "_law_threshold" "_law_threshold" (defArgs s19) (defBody s19) (defScope s19) .none kV19 dc19 pm19 an19 cd19 ct19 | 20 => PySem.W.fnOf "_law_simple" "_law_simple" (defArgs s20) (defBody s20) (defScope s20) .none kV20 dc20 pm20 an20 cd20 ct20 | 21 => PySem.W.fnOf "_law_rule" "_law_rule" (defArgs s21) (defBody s21) (defScope s21) .none kV21 dc21 pm21 an21 cd21 ct21 | 22 => PySem.W.fnOf "_law_limit" "_law_limit" (defArgs s22) (defBody s22) (defScope s22) .none kV22 dc22 pm22 an22 cd22 ct22 | 23 => PySem.W.fnOf "_law_by_counts" "_law_by_counts" (defArgs s23) (defBody s23) (defScope s23) .none kV23 dc23 pm23 an23 cd23 ct23 | 24 => PySem.W.fnOf "_law_passes" "_law_passes" (defArgs s24) (defBody s24) (defScope s24) .none kV24 dc24 pm24 an24 cd24 ct24 | 25 => PySem.W.fnOf "_law_leaves" "_law_leaves" (defArgs s25) (defBody s25) (defScope s25) .none kV25 dc25 pm25 an25 cd25 ct25 | 26 => PySem.W.fnOf "_law_chambers_of" "_law_chambers_of" (defArgs s26) (defBody s26) (defScope s26) .none kV26 dc26 pm26 an26 cd26 ct26 | 27 => PySem.W.fnOf "_law_numbers_of" "_law_numbers_of" (defArgs s27) (defBody s27) (defScope s27) .none kV27 dc27 pm27 an27 cd27 ct27 | 28 => PySem.W.fnOf "_law_other_limits" "_law_other_limits" (defArgs s28) (defBody s28) (defScope s28) .none kV28 dc28 pm28 an28 cd28 ct28 | _ => PySem.W.fnOf "law" "law" (defArgs s29) (defBody s29) (defScope s29) .none kV29 dc29 pm29 an29 cd29 ct29
  refine ⟨PySem.W.fnOf "law" "law" (defArgs s29) (defBody s29) (defScope s29) .none kV29 dc29 pm29 an29 cd29 ct29, [(co30, Pc30)], spLaw K, ?_, ?_, ?_, fun s v => .of_eq rfl, fun H a ns hl _ hH hS => ⟨a, ns, rfl, hS, hl, ?_, fun _ => rfl⟩, fun base _ _ hTB => ?_⟩
  · intro p hp
    simp only [List.mem_cons, List.not_mem_nil, or_false] at hp
    rcases hp with rfl
    · exact tC30
  · intro p hp
    simp only [List.mem_cons, List.not_mem_nil, or_false] at hp
    rcases hp with rfl
    · exact nC30
  · intro p hp
    simp only [List.mem_cons, List.not_mem_nil, or_false] at hp
    rcases hp with rfl
    · exact PySem.W.codeHd_of_K X hC30
  · intro p hp
    replace hp : p ∈ [(Pc30, lam30.qual)] := hp
    simp only [List.mem_cons, List.not_mem_nil, or_false] at hp
    rcases hp with rfl
    · exact hH (co30, Pc30) (by simp)
  have un30 : ∀ p ∈ Tb.tabs, p.1 = Pc30 → p.2 = lam30.qual := by
    intro p hp he
    replace hp : p ∈ [(Pc30, lam30.qual)] := hp
    simp only [List.mem_cons, List.not_mem_nil, or_false] at hp
    rcases hp with rfl
    · rfl
  have B : ∀ x ∈ bnames, mg x = none := by
    intro x hx
    simp only [bnames, List.mem_cons, List.not_mem_nil, or_false] at hx
    rcases hx with rfl | rfl | rfl | rfl | rfl | rfl | rfl | rfl | rfl | rfl | rfl | rfl | rfl | rfl | rfl | rfl | rfl | rfl | rfl | rfl | rfl
    · exact PySem.W.mg_none_of X G z0
    · exact PySem.W.mg_none_of X G z1
    · exact PySem.W.mg_none_of X G z2
    · exact PySem.W.mg_none_of X G z3
    · exact PySem.W.mg_none_of X G z4
    · exact PySem.W.mg_none_of X G z5
    · exact PySem.W.mg_none_of X G z6
    · exact PySem.W.mg_none_of X G z7
    · exact PySem.W.mg_none_of X G z8
    · exact PySem.W.mg_none_of X G z9
    · exact PySem.W.mg_none_of X G z10
    · exact PySem.W.mg_none_of X G z11
    · exact PySem.W.mg_none_of X G z12
    · exact PySem.W.mg_none_of X G z13
    · exact PySem.W.mg_none_of X G z14
    · exact PySem.W.mg_none_of X G z15
    · exact PySem.W.mg_none_of X G z16
    · exact PySem.W.mg_none_of X G z17
    · exact PySem.W.mg_none_of X G z18
    · exact PySem.W.mg_none_of X G z19
    · exact PySem.W.mg_none_of X G z20
  have T := lv (P := l.prog) (w := w) (base := base) (fa := fa) (fdd := fdd) F0 F1 F2 F3 F4 F5 F6 F7 F8 F9 F10 F11 F12 F13 F14 F15 F16 F17 F18 F19 F20 F21 F22 F23 F24 F25 F26 F27 F28 F29 (PySem.W.mg_of X G a0) (PySem.W.mg_of X G a1) (PySem.W.mg_of X G a2) (PySem.W.mg_of X G a3) (PySem.W.mg_of X G a4) (PySem.W.mg_of X G a5) (PySem.W.mg_of X G a6) (PySem.W.mg_of X G a7) (PySem.W.mg_of X G a8) (PySem.W.mg_of X G a9) (PySem.W.mg_of X G a10) (PySem.W.mg_of X G a11) (PySem.W.mg_of X G a12) (PySem.W.mg_of X G a13) (PySem.W.mg_of X G a14) (PySem.W.mg_of X G a15) (PySem.W.mg_of X G a16) (PySem.W.mg_of X G a17) (PySem.W.mg_of X G a18) (PySem.W.mg_of X G a19) (PySem.W.mg_of X G a20) (PySem.W.mg_of X G a21) (PySem.W.mg_of X G a22) (PySem.W.mg_of X G a23) (PySem.W.mg_of X G a24) (PySem.W.mg_of X G a25) (PySem.W.mg_of X G a26) (PySem.W.mg_of X G a27) (PySem.W.mg_of X G a28) (PySem.W.mg_of X G a29) (shok_pos 2 rfl b0) (shok_pos 2 rfl b1) (shok_pos 3 rfl b2) (shok_pos 1 rfl b3) (shok_pos 3 rfl b4) (shok_pos 4 rfl b5) (shok_kw 3 5 rfl rfl b6) (shok_pos 1 rfl b7) (shok_pos 2 rfl b8) (shok_pos 2 rfl b9) (shok_pos 1 rfl b10) (shok_pos 2 rfl b11) (shok_pos 2 rfl b12) (shok_pos 2 rfl b13) (shok_pos 2 rfl b14) (shok_pos 2 rfl b15) (shok_pos 3 rfl b16) (shok_pos 1 rfl b17) (shok_pos 1 rfl b18) (shok_pos 1 rfl b19) (shok_pos 3 rfl b20) (shok_pos 4 rfl b21) (shok_pos 2 rfl b22) (shok_pos 3 rfl b23) (shok_pos 5 rfl b24) (shok_pos 1 rfl b25) (shok_pos 1 rfl b26) (shok_pos 1 rfl b27) (shok_pos 3 rfl b28) (shok_pos 1 rfl b29) rfl (hTB (co30, Pc30) (by simp)) (by show _ ∈ [(Pc30, lam30.qual)]; simp) un30 rfl b5 B 100
  exact (T.1.at_ 29 _ rfl).2.2.imp (law_imp rfl pure)
end K03
namespace G
open PySem L2
section
variable {α γ σ : Type} {X : Nv → Prop} {Q : γ → Rs α → Prop} {Φ : Fn} {shs : Nat → Nat → Shape} {nv nv1 : Nv} {k : R → Nv → Rs α}
end
end G
namespace G
open PySem L2
section
variable {α γ δ τ σ ρ : Type} {X : Nv → Prop} {m m1 m2 : Z γ} {Q : γ → Rs α → Prop} {Φ : Fn} {shs : Nat → Nat → Shape} {nv nv1 : Nv} {ss : List S}
variable {Q : γ → Rs Fl → Prop}
end
end G
namespace G
noncomputable section
open PySem L2
/-! ### lambdas in the plain reading -/
section
variable {α γ δ τ : Type} {X : Nv → Prop} {m m1 m2 : Z γ} {Q : γ → Rs α → Prop} {Φ : Fn} {shs : Nat → Nat → Shape} {nv nv1 : Nv} {k : R → Nv → Rs α}
/-- a call with data and lambdas -/
theorem z_callF {ρ : Type} {n : Z ρ} {m' : ρ → Z γ} {f : Nat} {sh : Shape} {os os' : List (D ⊕ Nat)} {ss : List Sl} {h : ρ → R} (hq : FqP n (Φ f ss) h ss) (e1 : arrO sh os = some os') (e2 : slotsOf nv os' = some ss) (e3 : decide (brws os').Nodup = true) (e4 : putBack nv os' ss = some nv) (hx : X nv) (hk : ∀ c, L X (m' c) (k (h c) nv) Q) : L X (n.bind m') ((callOn Φ f sh os nv).bind k) Q := by
  unfold callOn
  rw [e1]
  dsimp only
  rw [e2]
  dsimp only
  rw [if_pos (of_decide_eq_true e3)]
  cases n with
  | ok c =>
    have hq : Φ f ss = .ok (h c) ss := hq.un
    rw [hq]
    dsimp only
    rw [e4]
    exact hk c
  | exc c as =>
    have hq : Φ f ss = .exc c as ss := hq.un
    rw [hq]
    dsimp only
    rw [e4]
    exact ⟨⟨nv, hx, rfl⟩⟩
  | no => exact l_no
def kCapp (Φ : Fn) (kk : Nat) (cs : List D) (os : List (D ⊕ Nat)) (nv : Nv) : Rs R := match inls os with
  | some ds => cappOn Φ kk (ds ++ cs) nv
  | none => .stuck
theorem x_capp {i : Nat} {ks : List Nat} {es : List E} {kk : Nat} {cs : List D} (e : nv[i]? = some (some (.fn kk cs))) (hk : kk ∈ ks) (h : L X m ((evOs Φ shs es nv).bind fun os nv1 => (kCapp Φ kk cs os nv1).bind k) Q) : L X m ((evE Φ shs (.capp i ks es) nv).bind k) Q := by
  rw [evE, e]
  dsimp only
  rw [if_pos hk, rbind_assoc]
  exact h
theorem z_capp {ρ : Type} {n : Z ρ} {m' : ρ → Z γ} {kk : Nat} {cs : List D} {os : List (D ⊕ Nat)} {ds : List D} {h : ρ → R} (e1 : inls os = some ds) (hq : ∃ ss, FqP n (Φ kk ((ds ++ cs).map .val)) h ss) (hk : ∀ c, L X (m' c) (k (h c) nv) Q) : L X (n.nox.bind m') ((kCapp Φ kk cs os nv).bind k) Q := by
  unfold kCapp cappOn
  obtain ⟨ss, hq⟩ := hq
  rw [e1]
  dsimp only
  cases n with
  | ok c =>
    have hq : Φ kk ((ds ++ cs).map .val) = .ok (h c) ss := hq.un
    rw [hq]
    exact hk c
  | exc c as => exact l_no
  | no => exact l_no
theorem x_callLam {f kk : Nat} {es fs : List E} {caps : List Nat} (h : L X m ((evOs Φ shs es nv).bind fun os nv1 => (evOs Φ shs fs nv1).bind fun os2 nv2 => (callLOn Φ f kk (inls os) (inls os2) (capsD nv2 caps) nv2).bind k) Q) : L X m ((evE Φ shs (.callL f es kk caps fs) nv).bind k) Q := by
  rw [evE, rbind_assoc]
  simpa only [rbind_assoc] using h
theorem z_callLam {ρ : Type} {n : Z ρ} {m' : ρ → Z γ} {f kk : Nat} {os os2 : List (D ⊕ Nat)} {caps : List Nat} {ds ds2 cs : List D} {ss ss' : List Sl} {h : ρ → R} (e1 : inls os = some ds) (e2 : inls os2 = some ds2) (e3 : capsD nv caps = some cs) (hs : ds.map .val ++ .fn kk cs :: ds2.map .val = ss) (hq : FqP n (Φ f ss) h ss') (hk : ∀ c, L X (m' c) (k (h c) nv) Q) :
    L X (n.nox.bind m') ((callLOn Φ f kk (inls os) (inls os2) (capsD nv caps) nv).bind k) Q := by
  unfold callLOn
  rw [e1, e2, e3]
  dsimp only
  rw [hs]
  cases n with
  | ok c =>
    have hq : Φ f ss = .ok (h c) ss' := hq.un
    rw [hq]
    exact hk c
  | exc c as => exact l_no
  | no => exact l_no
end
section
variable {ρ : Type} {Φ : Fn} {shs : Nat → Nat → Shape}
theorem outs_all {ss : List Sl} {nv : Nv} : outsOf [] ss nv = some ss := by
  unfold outsOf
  have : ∀ (ss : List Sl) (n : Nat), n ≤ ss.length → (List.range n).mapM (fun p => if ([] : List Nat).contains p = true then nv[p]?.join else ss[p]?) = some (ss.take n) := by
    intro ss n hn
    induction n with
    | zero => simp
    | succ n ih =>
      rw [List.range_succ, List.mapM_append, ih (by omega)]
      have hn' : n < ss.length := by omega
      rw [List.take_succ]
      simp [List.getElem?_eq_getElem hn']
  rw [this _ _ (Nat.le_refl _), List.take_length]
theorem fq_pureS {d : Df} {m : Z ρ} {h : ρ → R} {ss : List Sl} (lk : lentOk d.pr ss = true) (hp : d.pr = []) (hb : L (fun _ => True) m (evB Φ shs d.body (startNv d.n ss)) (QF h (fun _ _ => True))) : FqP m (runDf Φ shs d ss) h ss := by
  unfold runDf
  rw [if_pos lk, hp]
  refine ⟨?_⟩
  cases m with
  | ok c =>
    obtain ⟨nv, _, q | ⟨q, e⟩⟩ := hb.un
    · rw [q]
      simp only [endDf, outs_all]
    · rw [q]
      simp only [endDf, outs_all]
      show Cr.ok _ _ = Cr.ok _ _
      rw [e]
  | exc c as =>
    obtain ⟨e, _, q⟩ := hb.un
    rw [q]
    simp only [endDf, outs_all]
  | no => trivial
/-- what is known of a lambda that a def is given -/
def Lam1 (Φ : Nat → Fn) (hl : Nat) (f : D → Z D) (kk : Nat) (cs : List D) : Prop := ∀ n, hl ≤ n → ∀ x, ∃ ss, FqP (f x) (Φ n kk (([x] ++ cs).map .val)) .val ss
end
end
end G
namespace K03
open PySem L2 G
set_option maxHeartbeats 0 in
theorem q0 : ∀ (n : Nat), 1 ≤ n → ∀ (seats : D) (chamber : D), FqP (f_holders_of seats chamber) (calls dfs (shsOf tt) n 0 [.val seats, .val chamber]) (fun c => R.val c) [.val seats, .val chamber] := by
  intro n hn seats chamber
  obtain ⟨n, rfl⟩ : ∃ k, n = k + 1 := ⟨n - 1, by omega⟩
  rw [calls_succ (d := d0) rfl]
  refine fq_pure (ds := [seats, chamber]) rfl ?_
  change L _ _ (evB _ _ d0.body [some (.val seats), some (.val chamber)]) _
  unfold f_holders_of
  refine b_ret ?_
  refine x_ife ?_
  refine x_op2 ?_
  refine o_var rfl ?_
  refine o_exp rfl ?_
  refine x_op1 ?_
  refine o_var rfl ?_
  refine z_op1 rfl fun r1 => ?_
  refine z_op2 rfl rfl fun r2 => ?_
  refine z_iteE (h := fun s5 => R.val s5) (g := fun s5 => [some (.val seats), some (.val chamber)]) ?_ ?_ fun s5 => ?_
  · refine e_end ?_
    refine x_op2 ?_
    refine o_var rfl ?_
    refine o_var rfl ?_
    refine z_op2 rfl rfl fun r4 => ?_
    exact qe_ok rfl rfl
  · refine e_end ?_
    refine x_tup ?_
    refine g_nil ?_
    refine z_tup (ds := []) rfl rfl ?_
    exact qe_ok rfl rfl
  exact qf_ret rfl trivial
set_option maxHeartbeats 0 in
theorem q1 : ∀ (n : Nat), 1 ≤ n → ∀ (roll_call : D) (member : D), FqP (f_vote_of roll_call member) (calls dfs (shsOf tt) n 1 [.val roll_call, .val member]) (fun c => R.val c) [.val roll_call, .val member] := by
  intro n hn roll_call member
  obtain ⟨n, rfl⟩ : ∃ k, n = k + 1 := ⟨n - 1, by omega⟩
  rw [calls_succ (d := d1) rfl]
  refine fq_pure (ds := [roll_call, member]) rfl ?_
  change L _ _ (evB _ _ d1.body [some (.val roll_call), some (.val member)]) _
  unfold f_vote_of
  refine b_ret ?_
  refine x_ife ?_
  refine x_op2 ?_
  refine o_var rfl ?_
  refine o_exp rfl ?_
  refine x_op1 ?_
  refine o_var rfl ?_
  refine z_op1 rfl fun r1 => ?_
  refine z_op2 rfl rfl fun r2 => ?_
  refine z_iteE (h := fun s5 => R.val s5) (g := fun s5 => [some (.val roll_call), some (.val member)]) ?_ ?_ fun s5 => ?_
  · refine e_end ?_
    refine x_op2 ?_
    refine o_var rfl ?_
    refine o_var rfl ?_
    refine z_op2 rfl rfl fun r4 => ?_
    exact qe_ok rfl rfl
  · refine e_end ?_
    refine x_str ?_
    exact qe_ok rfl rfl
  exact qf_ret rfl trivial
set_option maxHeartbeats 0 in
theorem q2 : ∀ (n : Nat), 2 ≤ n → ∀ (seats : D) (roll_call : D) (chamber : D), FqP (f_tally seats roll_call chamber) (calls dfs (shsOf tt) n 2 [.val seats, .val roll_call, .val chamber]) (fun c => R.val c) [.val seats, .val roll_call, .val chamber] := by
  intro n hn seats roll_call chamber
  obtain ⟨n, rfl⟩ : ∃ k, n = k + 1 := ⟨n - 1, by omega⟩
  rw [calls_succ (d := d2) rfl]
  refine fq_pure (ds := [seats, roll_call, chamber]) rfl ?_
  change L _ _ (evB _ _ d2.body [some (.val seats), some (.val roll_call), some (.val chamber), none, none, none]) _
  unfold f_tally
  refine b_asg ?_
  refine x_call ?_
  refine g_cons rfl ?_
  refine x_var rfl ?_
  refine g_cons rfl ?_
  refine x_var rfl ?_
  refine g_nil ?_
  refine z_callP (ds := [seats, chamber]) (q0 _ (by omega) seats chamber) rfl trivial fun r1 => ?_
  refine s_asg (nv1 := [some (.val seats), some (.val roll_call), some (.val chamber), some (.val r1), none, none]) rfl ?_
  refine b_asg ?_
  refine x_comp ?_
  refine g_cons rfl ?_
  refine x_var rfl ?_
  refine g_nil ?_
  refine z_comp [some (.val seats), some (.val roll_call), some (.val chamber), some (.val r1), none, none] rfl rfl rfl (fun d2 => ?_) fun ys7 => ?_
  · refine t_go ?_
    refine a_nm (nv1 := [some (.val seats), some (.val roll_call), some (.val chamber), some (.val r1), none, some (.val d2)]) rfl ?_
    refine c_one ?_
    refine x_op1 ?_
    refine o_var rfl ?_
    refine z_op1 rfl fun r5 => ?_
    refine z_c1 ?_ (qt rfl)
    refine x_call ?_
    refine g_cons rfl ?_
    refine x_var rfl ?_
    refine g_cons rfl ?_
    refine x_var rfl ?_
    refine g_nil ?_
    refine z_callP (ds := [roll_call, d2]) (q1 _ (by omega) roll_call d2) rfl trivial fun r6 => ?_
    exact qt rfl
  refine s_asg (nv1 := [some (.val seats), some (.val roll_call), some (.val chamber), some (.val r1), some (.lv (.l true) ys7), none]) rfl ?_
  refine b_ret ?_
  refine x_tup ?_
  refine g_cons rfl ?_
  refine x_op1 ?_
  refine o_var rfl ?_
  refine z_op1 rfl fun r8 => ?_
  refine g_cons rfl ?_
  refine x_mop ?_
  refine o_var rfl ?_
  refine z_rec rfl ?_
  refine o_exp rfl ?_
  refine x_str ?_
  refine z_mop rfl rfl fun r9 => ?_
  refine g_cons rfl ?_
  refine x_mop ?_
  refine o_var rfl ?_
  refine z_rec rfl ?_
  refine o_exp rfl ?_
  refine x_str ?_
  refine z_mop rfl rfl fun r10 => ?_
  refine g_cons rfl ?_
  refine x_mop ?_
  refine o_var rfl ?_
  refine z_rec rfl ?_
  refine o_exp rfl ?_
  refine x_str ?_
  refine z_mop rfl rfl fun r11 => ?_
  refine g_nil ?_
  refine z_tup (ds := [r8, r9, r10, r11]) rfl rfl ?_
  exact qf_ret rfl trivial
set_option maxHeartbeats 0 in
theorem q3 : ∀ (fuel n : Nat), 0 + fuel ≤ n → ∀ (rule : D), FqP (f_leaves fuel rule) (calls dfs (shsOf tt) n 3 [.val rule]) (fun c => R.own c) [.val rule] := by
  intro fuel
  induction fuel with
  | zero => intro n hn rule; exact ⟨trivial⟩
  | succ fuel ih =>
    intro n hn rule
    obtain ⟨n, rfl⟩ : ∃ k, n = k + 1 := ⟨n - 1, by omega⟩
    rw [calls_succ (d := d3) rfl]
    refine fq_pure (ds := [rule]) rfl ?_
    change L _ _ (evB _ _ d3.body [some (.val rule)]) _
    rw [f_leaves]
    refine b_ife ?_
    refine x_op2 ?_
    refine o_exp rfl ?_
    refine x_op2 ?_
    refine o_var rfl ?_
    refine o_exp rfl ?_
    refine x_int ?_
    refine z_op2 rfl rfl fun r1 => ?_
    refine o_exp rfl ?_
    refine x_tup ?_
    refine g_cons rfl ?_
    refine x_str ?_
    refine g_cons rfl ?_
    refine x_str ?_
    refine g_nil ?_
    refine z_tup (ds := [(D.str "all"), (D.str "any")]) rfl rfl ?_
    refine z_op2 rfl rfl fun r2 => ?_
    refine z_ife ?_ ?_
    · refine b_ret ?_
      refine x_op2 ?_
      refine o_exp rfl ?_
      refine x_call ?_
      refine g_cons rfl ?_
      refine x_op2 ?_
      refine o_var rfl ?_
      refine o_exp rfl ?_
      refine x_int ?_
      refine z_op2 rfl rfl fun r3 => ?_
      refine g_nil ?_
      refine z_callP (ds := [r3]) (ih _ (by omega) r3) rfl trivial fun r4 => ?_
      refine o_exp rfl ?_
      refine x_call ?_
      refine g_cons rfl ?_
      refine x_op2 ?_
      refine o_var rfl ?_
      refine o_exp rfl ?_
      refine x_int ?_
      refine z_op2 rfl rfl fun r5 => ?_
      refine g_nil ?_
      refine z_callP (ds := [r5]) (ih _ (by omega) r5) rfl trivial fun r6 => ?_
      refine z_op2o rfl rfl fun r7 => ?_
      exact qf_ret rfl trivial
    · refine b_ret ?_
      refine x_lst ?_
      refine g_cons rfl ?_
      refine x_var rfl ?_
      refine g_nil ?_
      refine z_lst (ds := [rule]) rfl rfl ?_
      exact qf_ret rfl trivial
set_option maxHeartbeats 0 in
theorem q8 : ∀ (n : Nat), 1 ≤ n → ∀ (threshold : D) (parameters : D), FqP (f_threshold_value threshold parameters) (calls dfs (shsOf tt) n 8 [.val threshold, .val parameters]) (fun c => R.val c) [.val threshold, .val parameters] := by
  intro n hn threshold parameters
  obtain ⟨n, rfl⟩ : ∃ k, n = k + 1 := ⟨n - 1, by omega⟩
  rw [calls_succ (d := d8) rfl]
  refine fq_pure (ds := [threshold, parameters]) rfl ?_
  change L _ _ (evB _ _ d8.body [some (.val threshold), some (.val parameters), none]) _
  unfold f_threshold_value
  refine b_ife ?_
  refine x_not ?_
  refine x_op1 ?_
  refine o_exp rfl ?_
  refine x_op1 ?_
  refine o_var rfl ?_
  refine z_op1 rfl fun r1 => ?_
  refine z_op1 rfl fun r2 => ?_
  refine z_not fun r3 => ?_
  refine z_ife ?_ ?_
  · refine b_ret ?_
    refine x_mov rfl ?_
    exact qf_ret rfl trivial
  · refine b_asg ?_
    refine x_op2 ?_
    refine o_var rfl ?_
    refine o_exp rfl ?_
    refine x_int ?_
    refine z_op2 rfl rfl fun r4 => ?_
    refine s_asg (nv1 := [some (.val threshold), some (.val parameters), some (.val r4)]) rfl ?_
    refine b_ret ?_
    refine x_ife ?_
    refine x_op2 ?_
    refine o_var rfl ?_
    refine o_exp rfl ?_
    refine x_op1 ?_
    refine o_var rfl ?_
    refine z_op1 rfl fun r5 => ?_
    refine z_op2 rfl rfl fun r6 => ?_
    refine z_iteE (h := fun s9 => R.val s9) (g := fun s9 => [some (.val threshold), some (.val parameters), some (.val r4)]) ?_ ?_ fun s9 => ?_
    · refine e_end ?_
      refine x_op2 ?_
      refine o_var rfl ?_
      refine o_var rfl ?_
      refine z_op2 rfl rfl fun r8 => ?_
      exact qe_ok rfl rfl
    · refine e_end ?_
      refine x_int ?_
      exact qe_ok rfl rfl
    exact qf_ret rfl trivial
set_option maxHeartbeats 0 in
theorem q9 : ∀ (n : Nat), 1 ≤ n → ∀ (denominator : D) (counted : D), FqP (f_denominator_value denominator counted) (calls dfs (shsOf tt) n 9 [.val denominator, .val counted]) (fun c => R.val c) [.val denominator, .val counted] := by
  intro n hn denominator counted
  obtain ⟨n, rfl⟩ : ∃ k, n = k + 1 := ⟨n - 1, by omega⟩
  rw [calls_succ (d := d9) rfl]
  refine fq_pure (ds := [denominator, counted]) rfl ?_
  change L _ _ (evB _ _ d9.body [some (.val denominator), some (.val counted), none, none, none, none]) _
  unfold f_denominator_value
  refine b_asg ?_
  refine x_var rfl ?_
  refine a_multi rfl ?_
  refine a_un4 fun p1 => ?_
  refine a_ns (nv1 := [some (.val denominator), some (.val counted), some (.val p1.1), none, none, none]) rfl ?_
  refine a_ns (nv1 := [some (.val denominator), some (.val counted), some (.val p1.1), some (.val p1.2.1), none, none]) rfl ?_
  refine a_ns (nv1 := [some (.val denominator), some (.val counted), some (.val p1.1), some (.val p1.2.1), some (.val p1.2.2.1), none]) rfl ?_
  refine a_ns (nv1 := [some (.val denominator), some (.val counted), some (.val p1.1), some (.val p1.2.1), some (.val p1.2.2.1), some (.val p1.2.2.2)]) rfl ?_
  refine a_n0 ?_
  refine b_ife ?_
  refine x_op2 ?_
  refine o_var rfl ?_
  refine o_exp rfl ?_
  refine x_str ?_
  refine z_op2 rfl rfl fun r2 => ?_
  refine z_ife ?_ ?_
  · refine b_ret ?_
    refine x_mov rfl ?_
    exact qf_ret rfl trivial
  · refine b_ife ?_
    refine x_op2 ?_
    refine o_var rfl ?_
    refine o_exp rfl ?_
    refine x_str ?_
    refine z_op2 rfl rfl fun r3 => ?_
    refine z_ife ?_ ?_
    · refine b_ret ?_
      refine x_op2 ?_
      refine o_exp rfl ?_
      refine x_op2 ?_
      refine o_var rfl ?_
      refine o_var rfl ?_
      refine z_op2 rfl rfl fun r4 => ?_
      refine o_var rfl ?_
      refine z_op2 rfl rfl fun r5 => ?_
      exact qf_ret rfl trivial
    · refine b_ret ?_
      refine x_op2 ?_
      refine o_var rfl ?_
      refine o_var rfl ?_
      refine z_op2 rfl rfl fun r6 => ?_
      exact qf_ret rfl trivial
set_option maxHeartbeats 0 in
theorem q4 : ∀ (n : Nat), 2 ≤ n → ∀ (rule : D) (counted : D) (parameters : D), FqP (f_simple_passes rule counted parameters) (calls dfs (shsOf tt) n 4 [.val rule, .val counted, .val parameters]) (fun c => R.val c) [.val rule, .val counted, .val parameters] := by
  intro n hn rule counted parameters
  obtain ⟨n, rfl⟩ : ∃ k, n = k + 1 := ⟨n - 1, by omega⟩
  rw [calls_succ (d := d4) rfl]
  refine fq_pure (ds := [rule, counted, parameters]) rfl ?_
  change L _ _ (evB _ _ d4.body [some (.val rule), some (.val counted), some (.val parameters), none, none, none, none, none]) _
  unfold f_simple_passes
  refine b_asg ?_
  refine x_var rfl ?_
  refine a_multi rfl ?_
  refine a_un4 fun p1 => ?_
  refine a_ns (nv1 := [some (.val rule), some (.val counted), some (.val parameters), some (.val p1.1), none, none, none, none]) rfl ?_
  refine a_ns (nv1 := [some (.val rule), some (.val counted), some (.val parameters), some (.val p1.1), some (.val p1.2.1), none, none, none]) rfl ?_
  refine a_ns (nv1 := [some (.val rule), some (.val counted), some (.val parameters), some (.val p1.1), some (.val p1.2.1), some (.val p1.2.2.1), none, none]) rfl ?_
  refine a_ns (nv1 := [some (.val rule), some (.val counted), some (.val parameters), some (.val p1.1), some (.val p1.2.1), some (.val p1.2.2.1), some (.val p1.2.2.2), none]) rfl ?_
  refine a_n0 ?_
  refine b_asg ?_
  refine x_op2 ?_
  refine o_var rfl ?_
  refine o_exp rfl ?_
  refine x_int ?_
  refine z_op2 rfl rfl fun r2 => ?_
  refine s_asg (nv1 := [some (.val rule), some (.val counted), some (.val parameters), some (.val p1.1), some (.val p1.2.1), some (.val p1.2.2.1), some (.val p1.2.2.2), some (.val r2)]) rfl ?_
  refine b_ife ?_
  refine x_op2 ?_
  refine o_var rfl ?_
  refine o_exp rfl ?_
  refine x_str ?_
  refine z_op2 rfl rfl fun r3 => ?_
  refine z_ife ?_ ?_
  · refine b_ret ?_
    refine x_op2 ?_
    refine o_var rfl ?_
    refine o_exp rfl ?_
    refine x_call ?_
    refine g_cons rfl ?_
    refine x_op2 ?_
    refine o_var rfl ?_
    refine o_exp rfl ?_
    refine x_int ?_
    refine z_op2 rfl rfl fun r4 => ?_
    refine g_cons rfl ?_
    refine x_var rfl ?_
    refine g_nil ?_
    refine z_callP (ds := [r4, parameters]) (q8 _ (by omega) r4 parameters) rfl trivial fun r5 => ?_
    refine z_op2 rfl rfl fun r6 => ?_
    exact qf_ret rfl trivial
  · refine b_ife ?_
    refine x_op2 ?_
    refine o_var rfl ?_
    refine o_exp rfl ?_
    refine x_str ?_
    refine z_op2 rfl rfl fun r7 => ?_
    refine z_ife ?_ ?_
    · refine b_ret ?_
      refine x_op2 ?_
      refine o_exp rfl ?_
      refine x_op2 ?_
      refine o_exp rfl ?_
      refine x_op2 ?_
      refine o_var rfl ?_
      refine o_var rfl ?_
      refine z_op2 rfl rfl fun r8 => ?_
      refine o_var rfl ?_
      refine z_op2 rfl rfl fun r9 => ?_
      refine o_exp rfl ?_
      refine x_call ?_
      refine g_cons rfl ?_
      refine x_op2 ?_
      refine o_var rfl ?_
      refine o_exp rfl ?_
      refine x_int ?_
      refine z_op2 rfl rfl fun r10 => ?_
      refine g_cons rfl ?_
      refine x_var rfl ?_
      refine g_nil ?_
      refine z_callP (ds := [r10, parameters]) (q8 _ (by omega) r10 parameters) rfl trivial fun r11 => ?_
      refine z_op2 rfl rfl fun r12 => ?_
      exact qf_ret rfl trivial
    · refine b_ife ?_
      refine x_op2 ?_
      refine o_var rfl ?_
      refine o_exp rfl ?_
      refine x_str ?_
      refine z_op2 rfl rfl fun r13 => ?_
      refine z_ife ?_ ?_
      · refine b_ret ?_
        refine x_op2 ?_
        refine o_exp rfl ?_
        refine x_op2 ?_
        refine o_exp rfl ?_
        refine x_int ?_
        refine o_var rfl ?_
        refine z_op2 rfl rfl fun r14 => ?_
        refine o_exp rfl ?_
        refine x_call ?_
        refine g_cons rfl ?_
        refine x_op2 ?_
        refine o_var rfl ?_
        refine o_exp rfl ?_
        refine x_int ?_
        refine z_op2 rfl rfl fun r15 => ?_
        refine g_cons rfl ?_
        refine x_var rfl ?_
        refine g_nil ?_
        refine z_callP (ds := [r15, counted]) (q9 _ (by omega) r15 counted) rfl trivial fun r16 => ?_
        refine z_op2 rfl rfl fun r17 => ?_
        exact qf_ret rfl trivial
      · refine b_ret ?_
        refine x_op2 ?_
        refine o_exp rfl ?_
        refine x_op2 ?_
        refine o_exp rfl ?_
        refine x_op2 ?_
        refine o_var rfl ?_
        refine o_exp rfl ?_
        refine x_int ?_
        refine z_op2 rfl rfl fun r18 => ?_
        refine o_var rfl ?_
        refine z_op2 rfl rfl fun r19 => ?_
        refine o_exp rfl ?_
        refine x_op2 ?_
        refine o_exp rfl ?_
        refine x_op2 ?_
        refine o_var rfl ?_
        refine o_exp rfl ?_
        refine x_int ?_
        refine z_op2 rfl rfl fun r20 => ?_
        refine o_exp rfl ?_
        refine x_call ?_
        refine g_cons rfl ?_
        refine x_op2 ?_
        refine o_var rfl ?_
        refine o_exp rfl ?_
        refine x_int ?_
        refine z_op2 rfl rfl fun r21 => ?_
        refine g_cons rfl ?_
        refine x_var rfl ?_
        refine g_nil ?_
        refine z_callP (ds := [r21, counted]) (q9 _ (by omega) r21 counted) rfl trivial fun r22 => ?_
        refine z_op2 rfl rfl fun r23 => ?_
        refine z_op2 rfl rfl fun r24 => ?_
        exact qf_ret rfl trivial
set_option maxHeartbeats 0 in
theorem q30 : ∀ (n : Nat), 3 ≤ n → ∀ (chamber : D) (seats : D) (roll_call : D), FqP (f_lam_passes chamber seats roll_call) (calls dfs (shsOf tt) n 30 [.val chamber, .val seats, .val roll_call]) (fun c => R.val c) [.val chamber, .val seats, .val roll_call] := by
  intro n hn chamber seats roll_call
  obtain ⟨n, rfl⟩ : ∃ k, n = k + 1 := ⟨n - 1, by omega⟩
  rw [calls_succ (d := d30) rfl]
  refine fq_pure (ds := [chamber, seats, roll_call]) rfl ?_
  change L _ _ (evB _ _ d30.body [some (.val chamber), some (.val seats), some (.val roll_call)]) _
  unfold f_lam_passes
  refine b_ret ?_
  refine x_call ?_
  refine g_cons rfl ?_
  refine x_var rfl ?_
  refine g_cons rfl ?_
  refine x_var rfl ?_
  refine g_cons rfl ?_
  refine x_var rfl ?_
  refine g_nil ?_
  refine z_callP (ds := [seats, roll_call, chamber]) (q2 _ (by omega) seats roll_call chamber) rfl trivial fun r1 => ?_
  exact qf_ret rfl trivial
set_option maxHeartbeats 0 in
theorem q5 : ∀ (fuel n : Nat), 3 + fuel ≤ n → ∀ (rule : D) (tally_at : (D → Z D)) (k_tally_at : Nat) (c_tally_at : List D) (i_tally_at : k_tally_at ∈ [30]) (h_tally_at : Lam1 (calls dfs (shsOf tt)) 3 tally_at k_tally_at c_tally_at) (premier_agrees : D) (parameters : D), FqP (f_evaluate fuel rule tally_at premier_agrees parameters) (calls dfs (shsOf tt) n 5 [.val rule, .fn k_tally_at c_tally_at, .val premier_agrees, .val parameters]) (fun c => R.val c) [.val rule, .fn k_tally_at c_tally_at, .val premier_agrees, .val parameters] := by
  intro fuel
  induction fuel with
  | zero => intro n hn rule tally_at k_tally_at c_tally_at i_tally_at h_tally_at premier_agrees parameters; exact ⟨trivial⟩
  | succ fuel ih =>
    intro n hn rule tally_at k_tally_at c_tally_at i_tally_at h_tally_at premier_agrees parameters
    obtain ⟨n, rfl⟩ : ∃ k, n = k + 1 := ⟨n - 1, by omega⟩
    rw [calls_succ (d := d5) rfl]
    refine fq_pureS (d := d5) rfl rfl ?_
    change L _ _ (evB _ _ d5.body [some (.val rule), some (.fn k_tally_at c_tally_at), some (.val premier_agrees), some (.val parameters), none, none, none]) _
    rw [f_evaluate]
    refine b_asg ?_
    refine x_op2 ?_
    refine o_var rfl ?_
    refine o_exp rfl ?_
    refine x_int ?_
    refine z_op2 rfl rfl fun r1 => ?_
    refine s_asg (nv1 := [some (.val rule), some (.fn k_tally_at c_tally_at), some (.val premier_agrees), some (.val parameters), some (.val r1), none, none]) rfl ?_
    refine b_ife ?_
    refine x_op2 ?_
    refine o_var rfl ?_
    refine o_exp rfl ?_
    refine x_str ?_
    refine z_op2 rfl rfl fun r2 => ?_
    refine z_ife ?_ ?_
    · refine b_ret ?_
      refine x_mov rfl ?_
      exact qf_ret rfl trivial
    · refine b_ife ?_
      refine x_op2 ?_
      refine o_var rfl ?_
      refine o_exp rfl ?_
      refine x_tup ?_
      refine g_cons rfl ?_
      refine x_str ?_
      refine g_cons rfl ?_
      refine x_str ?_
      refine g_nil ?_
      refine z_tup (ds := [(D.str "all"), (D.str "any")]) rfl rfl ?_
      refine z_op2 rfl rfl fun r3 => ?_
      refine z_ife ?_ ?_
      · refine b_ret ?_
        refine x_call ?_
        refine g_cons rfl ?_
        refine x_var rfl ?_
        refine g_cons rfl ?_
        refine x_capp rfl i_tally_at ?_
        refine g_cons rfl ?_
        refine x_op2 ?_
        refine o_var rfl ?_
        refine o_exp rfl ?_
        refine x_int ?_
        refine z_op2 rfl rfl fun r4 => ?_
        refine g_nil ?_
        refine z_capp (ds := [r4]) rfl (h_tally_at _ (by omega) r4) fun r5 => ?_
        refine g_cons rfl ?_
        refine x_var rfl ?_
        refine g_nil ?_
        refine z_callP (ds := [rule, r5, parameters]) (q4 _ (by omega) rule r5 parameters) rfl trivial fun r6 => ?_
        exact qf_ret rfl trivial
      · refine b_asg ?_
        refine x_call ?_
        refine g_cons rfl ?_
        refine x_op2 ?_
        refine o_var rfl ?_
        refine o_exp rfl ?_
        refine x_int ?_
        refine z_op2 rfl rfl fun r7 => ?_
        refine g_brw rfl ?_
        refine g_cons rfl ?_
        refine x_var rfl ?_
        refine g_cons rfl ?_
        refine x_var rfl ?_
        refine g_nil ?_
        refine z_callF (ss := [.val r7, .fn k_tally_at c_tally_at, .val premier_agrees, .val parameters]) (ih _ (by omega) r7 tally_at k_tally_at c_tally_at i_tally_at h_tally_at premier_agrees parameters) rfl rfl rfl rfl trivial fun r8 => ?_
        refine s_asg (nv1 := [some (.val rule), some (.fn k_tally_at c_tally_at), some (.val premier_agrees), some (.val parameters), some (.val r1), some (.val r8), none]) rfl ?_
        refine b_asg ?_
        refine x_call ?_
        refine g_cons rfl ?_
        refine x_op2 ?_
        refine o_var rfl ?_
        refine o_exp rfl ?_
        refine x_int ?_
        refine z_op2 rfl rfl fun r9 => ?_
        refine g_brw rfl ?_
        refine g_cons rfl ?_
        refine x_var rfl ?_
        refine g_cons rfl ?_
        refine x_var rfl ?_
        refine g_nil ?_
        refine z_callF (ss := [.val r9, .fn k_tally_at c_tally_at, .val premier_agrees, .val parameters]) (ih _ (by omega) r9 tally_at k_tally_at c_tally_at i_tally_at h_tally_at premier_agrees parameters) rfl rfl rfl rfl trivial fun r10 => ?_
        refine s_asg (nv1 := [some (.val rule), some (.fn k_tally_at c_tally_at), some (.val premier_agrees), some (.val parameters), some (.val r1), some (.val r8), some (.val r10)]) rfl ?_
        refine b_ret ?_
        refine x_ife ?_
        refine x_op2 ?_
        refine o_var rfl ?_
        refine o_exp rfl ?_
        refine x_str ?_
        refine z_op2 rfl rfl fun r11 => ?_
        refine z_iteE (h := fun s16 => R.val s16) (g := fun s16 => [some (.val rule), some (.fn k_tally_at c_tally_at), some (.val premier_agrees), some (.val parameters), some (.val r1), some (.val r8), some (.val r10)]) ?_ ?_ fun s16 => ?_
        · refine e_end ?_
          refine x_and ?_
          refine x_var rfl ?_
          refine z_and ?_ fun r14 => ?_
          · refine e_end ?_
            refine x_var rfl ?_
            exact qe_ok rfl rfl
          exact qe_ok rfl rfl
        · refine e_end ?_
          refine x_or ?_
          refine x_var rfl ?_
          refine z_or ?_ fun r15 => ?_
          · refine e_end ?_
            refine x_var rfl ?_
            exact qe_ok rfl rfl
          exact qe_ok rfl rfl
        exact qf_ret rfl trivial
set_option maxHeartbeats 0 in
theorem q6 : ∀ (n : Nat), 35 ≤ n → ∀ (rule : D) (seats : D) (roll_call : D) (parameters : D) (premier : D), FqP (f_passes rule seats roll_call parameters premier) (calls dfs (shsOf tt) n 6 [.val rule, .val seats, .val roll_call, .val parameters, .val premier]) (fun c => R.val c) [.val rule, .val seats, .val roll_call, .val parameters, .val premier] := by
  intro n hn rule seats roll_call parameters premier
  obtain ⟨n, rfl⟩ : ∃ k, n = k + 1 := ⟨n - 1, by omega⟩
  rw [calls_succ (d := d6) rfl]
  refine fq_pure (ds := [rule, seats, roll_call, parameters, premier]) rfl ?_
  change L _ _ (evB _ _ d6.body [some (.val rule), some (.val seats), some (.val roll_call), some (.val parameters), some (.val premier), none]) _
  unfold f_passes
  refine b_asg ?_
  refine x_and ?_
  refine x_op1 ?_
  refine o_var rfl ?_
  refine z_op1 rfl fun r1 => ?_
  refine z_and ?_ fun r4 => ?_
  · refine e_end ?_
    refine x_op2 ?_
    refine o_exp rfl ?_
    refine x_call ?_
    refine g_cons rfl ?_
    refine x_var rfl ?_
    refine g_cons rfl ?_
    refine x_var rfl ?_
    refine g_nil ?_
    refine z_callP (ds := [roll_call, premier]) (q1 _ (by omega) roll_call premier) rfl trivial fun r2 => ?_
    refine o_exp rfl ?_
    refine x_str ?_
    refine z_op2 rfl rfl fun r3 => ?_
    exact qe_ok rfl rfl
  refine s_asg (nv1 := [some (.val rule), some (.val seats), some (.val roll_call), some (.val parameters), some (.val premier), some (.val r4)]) rfl ?_
  refine b_ret ?_
  refine x_callLam ?_
  refine g_cons rfl ?_
  refine x_var rfl ?_
  refine g_nil ?_
  refine g_cons rfl ?_
  refine x_var rfl ?_
  refine g_cons rfl ?_
  refine x_var rfl ?_
  refine g_nil ?_
  refine z_callLam (ds := [rule]) (ds2 := [r4, parameters]) (cs := [seats, roll_call]) rfl rfl rfl rfl (q5 30 _ (by omega) rule (fun x0 => f_lam_passes x0 seats roll_call) 30 [seats, roll_call] (by decide) (fun n hn x0 => ⟨_, q30 n (by omega) x0 seats roll_call⟩) r4 parameters) fun r5 => ?_
  exact qf_ret rfl trivial
set_option maxHeartbeats 0 in
theorem q7 : ∀ (n : Nat), 32 ≤ n → ∀ (rule : D), FqP (f_named rule) (calls dfs (shsOf tt) n 7 [.val rule]) (fun c => R.val c) [.val rule] := by
  intro n hn rule
  obtain ⟨n, rfl⟩ : ∃ k, n = k + 1 := ⟨n - 1, by omega⟩
  rw [calls_succ (d := d7) rfl]
  refine fq_pure (ds := [rule]) rfl ?_
  change L _ _ (evB _ _ d7.body [some (.val rule), none, none, none, none, none, none]) _
  unfold f_named
  refine b_asg ?_
  refine x_comp ?_
  refine g_cons rfl ?_
  refine x_call ?_
  refine g_cons rfl ?_
  refine x_var rfl ?_
  refine g_nil ?_
  refine z_callP (ds := [rule]) (q3 30 _ (by omega) rule) rfl trivial fun r1 => ?_
  refine g_nil ?_
  refine z_comp [some (.val rule), none, none, none, none, none, none] rfl rfl rfl (fun d2 => ?_) fun ys7 => ?_
  · refine t_go ?_
    refine a_nm (nv1 := [some (.val rule), none, none, none, none, some (.val d2), none]) rfl ?_
    refine c_one ?_
    refine x_op2 ?_
    refine o_exp rfl ?_
    refine x_op2 ?_
    refine o_var rfl ?_
    refine o_exp rfl ?_
    refine x_int ?_
    refine z_op2 rfl rfl fun r5 => ?_
    refine o_exp rfl ?_
    refine x_str ?_
    refine z_op2 rfl rfl fun r6 => ?_
    refine z_c1 ?_ (qt rfl)
    refine x_var rfl ?_
    exact qt rfl
  refine s_asg (nv1 := [some (.val rule), some (.lv (.l true) ys7), none, none, none, none, none]) rfl ?_
  refine b_asg ?_
  refine x_comp ?_
  refine g_cons rfl ?_
  refine x_varF (nv1 := [some (.val rule), some (.val (D.lst ys7)), none, none, none, none, none]) rfl rfl ?_
  refine g_nil ?_
  refine z_map [some (.val rule), some (.val (D.lst ys7)), none, none, none, none, none] rfl rfl rfl (fun d8 => ?_) fun ys12 => ?_
  · refine t_go ?_
    refine a_nm (nv1 := [some (.val rule), some (.val (D.lst ys7)), none, none, none, some (.val d8), none]) rfl ?_
    refine c_nil ?_
    refine t_true ?_
    refine x_op2 ?_
    refine o_var rfl ?_
    refine o_exp rfl ?_
    refine x_int ?_
    refine z_op2 rfl rfl fun r11 => ?_
    exact qt rfl
  refine s_asg (nv1 := [some (.val rule), some (.val (D.lst ys7)), some (.lv (.l true) ys12), none, none, none, none]) rfl ?_
  refine b_asg ?_
  refine x_comp ?_
  refine g_cons rfl ?_
  refine x_var rfl ?_
  refine g_nil ?_
  refine z_comp [some (.val rule), some (.val (D.lst ys7)), some (.lv (.l true) ys12), none, none, none, none] rfl rfl rfl (fun d13 => ?_) fun ys19 => ?_
  · refine t_go ?_
    refine a_nm (nv1 := [some (.val rule), some (.val (D.lst ys7)), some (.lv (.l true) ys12), none, none, some (.val d13), none]) rfl ?_
    refine c_one ?_
    refine x_op2 ?_
    refine o_exp rfl ?_
    refine x_op2 ?_
    refine o_var rfl ?_
    refine o_exp rfl ?_
    refine x_int ?_
    refine z_op2 rfl rfl fun r16 => ?_
    refine o_exp rfl ?_
    refine x_tup ?_
    refine g_cons rfl ?_
    refine x_str ?_
    refine g_cons rfl ?_
    refine x_str ?_
    refine g_nil ?_
    refine z_tup (ds := [(D.str "yeas"), (D.str "quorum")]) rfl rfl ?_
    refine z_op2 rfl rfl fun r17 => ?_
    refine z_c1 ?_ (qt rfl)
    refine x_op2 ?_
    refine o_var rfl ?_
    refine o_exp rfl ?_
    refine x_int ?_
    refine z_op2 rfl rfl fun r18 => ?_
    exact qt rfl
  refine s_asg (nv1 := [some (.val rule), some (.val (D.lst ys7)), some (.lv (.l true) ys12), some (.lv (.l true) ys19), none, none, none]) rfl ?_
  refine b_asg ?_
  refine x_comp ?_
  refine g_cons rfl ?_
  refine x_varF (nv1 := [some (.val rule), some (.val (D.lst ys7)), some (.lv (.l true) ys12), some (.val (D.lst ys19)), none, none, none]) rfl rfl ?_
  refine g_nil ?_
  refine z_comp [some (.val rule), some (.val (D.lst ys7)), some (.lv (.l true) ys12), some (.val (D.lst ys19)), none, none, none] rfl rfl rfl (fun d20 => ?_) fun ys26 => ?_
  · refine t_go ?_
    refine a_nm (nv1 := [some (.val rule), some (.val (D.lst ys7)), some (.lv (.l true) ys12), some (.val (D.lst ys19)), none, none, some (.val d20)]) rfl ?_
    refine c_one ?_
    refine x_op1 ?_
    refine o_exp rfl ?_
    refine x_op1 ?_
    refine o_var rfl ?_
    refine z_op1 rfl fun r23 => ?_
    refine z_op1 rfl fun r24 => ?_
    refine z_c1 ?_ (qt rfl)
    refine x_op2 ?_
    refine o_var rfl ?_
    refine o_exp rfl ?_
    refine x_int ?_
    refine z_op2 rfl rfl fun r25 => ?_
    exact qt rfl
  refine s_asg (nv1 := [some (.val rule), some (.val (D.lst ys7)), some (.lv (.l true) ys12), some (.val (D.lst ys19)), some (.lv (.l true) ys26), none, none]) rfl ?_
  refine b_ret ?_
  refine x_tup ?_
  refine g_cons rfl ?_
  refine x_op1 ?_
  refine o_exp rfl ?_
  refine x_op1 ?_
  refine o_var rfl ?_
  refine z_op1o rfl fun r27 => ?_
  refine z_op1 rfl fun r28 => ?_
  refine g_cons rfl ?_
  refine x_op1 ?_
  refine o_exp rfl ?_
  refine x_op1 ?_
  refine o_var rfl ?_
  refine z_op1o rfl fun r29 => ?_
  refine z_op1 rfl fun r30 => ?_
  refine g_nil ?_
  refine z_tup (ds := [r28, r30]) rfl rfl ?_
  exact qf_ret rfl trivial
set_option maxHeartbeats 0 in
theorem q10 : ∀ (n : Nat), 1 ≤ n → ∀ (script : D), FqP (f_law_tape script) (calls dfs (shsOf tt) n 10 [.val script]) (fun c => R.own c) [.val script] := by
  intro n hn script
  obtain ⟨n, rfl⟩ : ∃ k, n = k + 1 := ⟨n - 1, by omega⟩
  rw [calls_succ (d := d10) rfl]
  refine fq_pure (ds := [script]) rfl ?_
  change L _ _ (evB _ _ d10.body [some (.val script), none, none]) _
  unfold f_law_tape
  refine b_asg ?_
  refine x_int ?_
  refine s_asg (nv1 := [some (.val script), some (.val (D.int 7)), none]) rfl ?_
  refine b_kill (nv1 := [some (.val script), some (.val (D.int 7)), none]) rfl ?_
  refine b_for ?_
  refine g_cons rfl ?_
  refine x_var rfl ?_
  refine g_nil ?_
  refine z_fold (g := fun s1 => [some (.val script), some (.val s1), none]) rfl rfl (fun d3 s1 => ?_) fun s2 => ?_
  · refine a_nm (nv1 := [some (.val script), some (.val s1), some (.val d3)]) rfl ?_
    refine b_asg ?_
    refine x_op2 ?_
    refine o_exp rfl ?_
    refine x_op1 ?_
    refine o_exp rfl ?_
    refine x_op2 ?_
    refine o_exp rfl ?_
    refine x_op2 ?_
    refine o_var rfl ?_
    refine o_exp rfl ?_
    refine x_int ?_
    refine z_op2 rfl rfl fun r5 => ?_
    refine o_exp rfl ?_
    refine x_op1 ?_
    refine o_exp rfl ?_
    refine x_op1 ?_
    refine o_var rfl ?_
    refine z_op1 rfl fun r6 => ?_
    refine z_op1 rfl fun r7 => ?_
    refine z_op2 rfl rfl fun r8 => ?_
    refine z_op1 rfl fun r9 => ?_
    refine o_exp rfl ?_
    refine x_int ?_
    refine z_op2 rfl rfl fun r10 => ?_
    refine s_asg (nv1 := [some (.val script), some (.val r10), some (.val d3)]) rfl ?_
    refine b_kill (nv1 := [some (.val script), some (.val r10), none]) rfl ?_
    refine b_nil ?_
    exact qn_nx rfl
  refine b_ret ?_
  refine x_lst ?_
  refine g_cons rfl ?_
  refine x_op1 ?_
  refine o_var rfl ?_
  refine z_op1o rfl fun r11 => ?_
  refine g_cons rfl ?_
  refine x_int ?_
  refine g_cons rfl ?_
  refine x_int ?_
  refine g_cons rfl ?_
  refine x_var rfl ?_
  refine g_nil ?_
  refine z_lst (ds := [(D.lst r11), (D.int 0), (D.int 0), s2]) rfl rfl ?_
  exact qf_ret rfl trivial
set_option maxHeartbeats 0 in
theorem q11 : ∀ (n : Nat), 1 ≤ n → ∀ (tape : List D) (many : D), FqL (f_law_draw tape many) (calls dfs (shsOf tt) n 11 [.lv (.l false) tape, .val many]) (fun c => R.val c.1) (fun c => [.lv (.l false) c.2, .val many]) := by
  intro n hn tape many
  obtain ⟨n, rfl⟩ : ∃ k, n = k + 1 := ⟨n - 1, by omega⟩
  rw [calls_succ (d := d11) rfl]
  refine fq_lent (X := fun _ => True) rfl ?_
  change L _ _ (evB _ _ d11.body [some (.lv (.l false) tape), some (.val many), none, none]) _
  unfold f_law_draw
  refine b_ife ?_
  refine x_op2 ?_
  refine o_exp rfl ?_
  refine x_op2 ?_
  refine o_var rfl ?_
  refine o_exp rfl ?_
  refine x_int ?_
  refine z_op2 rfl rfl fun r1 => ?_
  refine o_exp rfl ?_
  refine x_int ?_
  refine z_op2 rfl rfl fun r2 => ?_
  refine z_ife ?_ ?_
  · refine b_asg ?_
    refine x_op2 ?_
    refine o_var rfl ?_
    refine o_exp rfl ?_
    refine x_int ?_
    refine z_op2 rfl rfl fun r3 => ?_
    refine s_asg (nv1 := [some (.lv (.l false) tape), some (.val many), some (.val r3), none]) rfl ?_
    refine b_asg ?_
    refine x_int ?_
    refine s_asg (nv1 := [some (.lv (.l false) tape), some (.val many), some (.val r3), some (.val (D.int 0))]) rfl ?_
    refine b_ife ?_
    refine x_op2 ?_
    refine o_var rfl ?_
    refine o_exp rfl ?_
    refine x_op1 ?_
    refine o_exp rfl ?_
    refine x_op2 ?_
    refine o_var rfl ?_
    refine o_exp rfl ?_
    refine x_int ?_
    refine z_op2 rfl rfl fun r4 => ?_
    refine z_op1 rfl fun r5 => ?_
    refine z_op2 rfl rfl fun r6 => ?_
    refine z_ifj (g := fun s19 => [some (.lv (.l false) s19.1), some (.val many), some (.val r3), some (.val s19.2)]) ?_ ?_ fun s19 => ?_
    · refine b_asg ?_
      refine x_op1 ?_
      refine o_exp rfl ?_
      refine x_op1 ?_
      refine o_exp rfl ?_
      refine x_op2 ?_
      refine o_exp rfl ?_
      refine x_op2 ?_
      refine o_var rfl ?_
      refine o_exp rfl ?_
      refine x_int ?_
      refine z_op2 rfl rfl fun r7 => ?_
      refine o_var rfl ?_
      refine z_op2 rfl rfl fun r8 => ?_
      refine z_op1 rfl fun r9 => ?_
      refine z_op1 rfl fun r10 => ?_
      refine s_asg (nv1 := [some (.lv (.l false) tape), some (.val many), some (.val r3), some (.val r10)]) rfl ?_
      refine b_kill (nv1 := [some (.lv (.l false) tape), some (.val many), some (.val r3), some (.val r10)]) rfl ?_
      refine b_nil ?_
      exact qj_ok rfl
    · refine b_sti ?_
      refine x_op2 ?_
      refine o_exp rfl ?_
      refine x_op1 ?_
      refine o_exp rfl ?_
      refine x_op2 ?_
      refine o_exp rfl ?_
      refine x_op2 ?_
      refine o_exp rfl ?_
      refine x_op2 ?_
      refine o_exp rfl ?_
      refine x_op2 ?_
      refine o_var rfl ?_
      refine o_exp rfl ?_
      refine x_int ?_
      refine z_op2 rfl rfl fun r11 => ?_
      refine o_exp rfl ?_
      refine x_int ?_
      refine z_op2 rfl rfl fun r12 => ?_
      refine o_var rfl ?_
      refine z_op2 rfl rfl fun r13 => ?_
      refine o_exp rfl ?_
      refine x_int ?_
      refine z_op2 rfl rfl fun r14 => ?_
      refine z_op1 rfl fun r15 => ?_
      refine o_exp rfl ?_
      refine x_int ?_
      refine z_op2 rfl rfl fun r16 => ?_
      refine s_sti rfl ?_
      refine x_int ?_
      refine z_st (g := fun l17 => [some (.lv (.l false) l17), some (.val many), some (.val r3), some (.val (D.int 0))]) rfl (fun _ => rfl) fun l17 => ?_
      refine b_asg ?_
      refine x_op2 ?_
      refine o_var rfl ?_
      refine o_exp rfl ?_
      refine x_int ?_
      refine z_op2 rfl rfl fun r18 => ?_
      refine s_asg (nv1 := [some (.lv (.l false) l17), some (.val many), some (.val r3), some (.val r18)]) rfl ?_
      refine b_kill (nv1 := [some (.lv (.l false) l17), some (.val many), some (.val r3), some (.val r18)]) rfl ?_
      refine b_nil ?_
      exact qj_ok rfl
    refine b_sti ?_
    refine x_op2 ?_
    refine o_var rfl ?_
    refine o_exp rfl ?_
    refine x_int ?_
    refine z_op2 rfl rfl fun r20 => ?_
    refine s_sti rfl ?_
    refine x_int ?_
    refine z_st (g := fun l21 => [some (.lv (.l false) l21), some (.val many), some (.val r3), some (.val s19.2)]) rfl (fun _ => rfl) fun l21 => ?_
    refine b_ife ?_
    refine x_op2 ?_
    refine o_var rfl ?_
    refine o_exp rfl ?_
    refine x_op2 ?_
    refine o_exp rfl ?_
    refine x_int ?_
    refine o_exp rfl ?_
    refine x_int ?_
    refine z_op2 rfl rfl fun r22 => ?_
    refine z_op2 rfl rfl fun r23 => ?_
    refine z_ife ?_ ?_
    · refine b_asg ?_
      refine x_op2 ?_
      refine o_exp rfl ?_
      refine x_op1 ?_
      refine o_exp rfl ?_
      refine x_op2 ?_
      refine o_exp rfl ?_
      refine x_op2 ?_
      refine o_exp rfl ?_
      refine x_op2 ?_
      refine o_var rfl ?_
      refine o_exp rfl ?_
      refine x_int ?_
      refine z_op2 rfl rfl fun r24 => ?_
      refine o_exp rfl ?_
      refine x_op2 ?_
      refine o_var rfl ?_
      refine o_exp rfl ?_
      refine x_int ?_
      refine z_op2 rfl rfl fun r25 => ?_
      refine z_op2 rfl rfl fun r26 => ?_
      refine o_exp rfl ?_
      refine x_int ?_
      refine z_op2 rfl rfl fun r27 => ?_
      refine z_op1 rfl fun r28 => ?_
      refine o_exp rfl ?_
      refine x_int ?_
      refine z_op2 rfl rfl fun r29 => ?_
      refine s_asg (nv1 := [some (.lv (.l false) l21), some (.val many), some (.val r3), some (.val r29)]) rfl ?_
      refine b_asg ?_
      refine x_op2 ?_
      refine o_exp rfl ?_
      refine x_op1 ?_
      refine o_exp rfl ?_
      refine x_op2 ?_
      refine o_var rfl ?_
      refine o_exp rfl ?_
      refine x_int ?_
      refine z_op2 rfl rfl fun r30 => ?_
      refine z_op1 rfl fun r31 => ?_
      refine o_exp rfl ?_
      refine x_int ?_
      refine z_op2 rfl rfl fun r32 => ?_
      refine s_asg (nv1 := [some (.lv (.l false) l21), some (.val many), some (.val r3), some (.val r32)]) rfl ?_
      refine b_ret ?_
      refine x_op2 ?_
      refine o_exp rfl ?_
      refine x_op1 ?_
      refine o_var rfl ?_
      refine z_op1 rfl fun r33 => ?_
      refine o_exp rfl ?_
      refine x_op2 ?_
      refine o_var rfl ?_
      refine o_exp rfl ?_
      refine x_int ?_
      refine z_op2 rfl rfl fun r34 => ?_
      refine z_op2 rfl rfl fun r35 => ?_
      exact qf_ret rfl rfl
    · refine b_sti ?_
      refine x_var rfl ?_
      refine s_sti rfl ?_
      refine x_int ?_
      refine z_st (g := fun l36 => [some (.lv (.l false) l36), some (.val many), some (.val r3), some (.val s19.2)]) rfl (fun _ => rfl) fun l36 => ?_
      refine b_asg ?_
      refine x_op2 ?_
      refine o_var rfl ?_
      refine o_exp rfl ?_
      refine x_int ?_
      refine z_op2 rfl rfl fun r37 => ?_
      refine s_asg (nv1 := [some (.lv (.l false) l36), some (.val many), some (.val r3), some (.val r37)]) rfl ?_
      refine b_sti ?_
      refine x_op2 ?_
      refine o_var rfl ?_
      refine o_exp rfl ?_
      refine x_op2 ?_
      refine o_var rfl ?_
      refine o_exp rfl ?_
      refine x_int ?_
      refine z_op2 rfl rfl fun r38 => ?_
      refine z_op2 rfl rfl fun r39 => ?_
      refine s_sti rfl ?_
      refine x_int ?_
      refine z_st (g := fun l40 => [some (.lv (.l false) l40), some (.val many), some (.val r3), some (.val r37)]) rfl (fun _ => rfl) fun l40 => ?_
      refine b_ret ?_
      refine x_op2 ?_
      refine o_exp rfl ?_
      refine x_op1 ?_
      refine o_var rfl ?_
      refine z_op1 rfl fun r41 => ?_
      refine o_exp rfl ?_
      refine x_op2 ?_
      refine o_var rfl ?_
      refine o_exp rfl ?_
      refine x_int ?_
      refine z_op2 rfl rfl fun r42 => ?_
      refine z_op2 rfl rfl fun r43 => ?_
      exact qf_ret rfl rfl
  · refine b_asg ?_
    refine x_op2 ?_
    refine o_var rfl ?_
    refine o_exp rfl ?_
    refine x_int ?_
    refine z_op2 rfl rfl fun r44 => ?_
    refine s_asg (nv1 := [some (.lv (.l false) tape), some (.val many), none, some (.val r44)]) rfl ?_
    refine b_sti ?_
    refine x_op2 ?_
    refine o_var rfl ?_
    refine o_exp rfl ?_
    refine x_op2 ?_
    refine o_var rfl ?_
    refine o_exp rfl ?_
    refine x_int ?_
    refine z_op2 rfl rfl fun r45 => ?_
    refine z_op2 rfl rfl fun r46 => ?_
    refine s_sti rfl ?_
    refine x_int ?_
    refine z_st (g := fun l47 => [some (.lv (.l false) l47), some (.val many), none, some (.val r44)]) rfl (fun _ => rfl) fun l47 => ?_
    refine b_ret ?_
    refine x_op2 ?_
    refine o_exp rfl ?_
    refine x_op1 ?_
    refine o_var rfl ?_
    refine z_op1 rfl fun r48 => ?_
    refine o_exp rfl ?_
    refine x_op2 ?_
    refine o_var rfl ?_
    refine o_exp rfl ?_
    refine x_int ?_
    refine z_op2 rfl rfl fun r49 => ?_
    refine z_op2 rfl rfl fun r50 => ?_
    exact qf_ret rfl rfl
set_option maxHeartbeats 0 in
theorem q12 : ∀ (fuel n : Nat), 0 + fuel ≤ n → ∀ (actual : D) (expected : D), FqP (f_law_same fuel actual expected) (calls dfs (shsOf tt) n 12 [.val actual, .val expected]) (fun c => R.val c) [.val actual, .val expected] := by
  intro fuel
  induction fuel with
  | zero => intro n hn actual expected; exact ⟨trivial⟩
  | succ fuel ih =>
    intro n hn actual expected
    obtain ⟨n, rfl⟩ : ∃ k, n = k + 1 := ⟨n - 1, by omega⟩
    rw [calls_succ (d := d12) rfl]
    refine fq_pure (ds := [actual, expected]) rfl ?_
    change L _ _ (evB _ _ d12.body [some (.val actual), some (.val expected), none]) _
    rw [f_law_same]
    refine b_ife ?_
    refine x_op1 ?_
    refine o_var rfl ?_
    refine z_op1 rfl fun r1 => ?_
    refine z_ife ?_ ?_
    · refine b_ret ?_
      refine x_op1 ?_
      refine o_var rfl ?_
      refine z_op1 rfl fun r2 => ?_
      exact qf_ret rfl trivial
    · refine b_ife ?_
      refine x_op1 ?_
      refine o_exp rfl ?_
      refine x_op1 ?_
      refine o_var rfl ?_
      refine z_op1 rfl fun r3 => ?_
      refine z_op1 rfl fun r4 => ?_
      refine z_ife ?_ ?_
      · refine b_ife ?_
        refine x_or ?_
        refine x_not ?_
        refine x_op1 ?_
        refine o_exp rfl ?_
        refine x_op1 ?_
        refine o_var rfl ?_
        refine z_op1 rfl fun r5 => ?_
        refine z_op1 rfl fun r6 => ?_
        refine z_not fun r7 => ?_
        refine z_or ?_ fun r11 => ?_
        · refine e_end ?_
          refine x_op2 ?_
          refine o_exp rfl ?_
          refine x_op1 ?_
          refine o_var rfl ?_
          refine z_op1 rfl fun r8 => ?_
          refine o_exp rfl ?_
          refine x_op1 ?_
          refine o_var rfl ?_
          refine z_op1 rfl fun r9 => ?_
          refine z_op2 rfl rfl fun r10 => ?_
          exact qe_ok rfl rfl
        refine z_ife ?_ ?_
        · refine b_ret ?_
          refine x_bl ?_
          exact qf_ret rfl trivial
        · refine b_kill (nv1 := [some (.val actual), some (.val expected), none]) rfl ?_
          refine b_for ?_
          refine g_cons rfl ?_
          refine x_op1 ?_
          refine o_var rfl ?_
          refine z_op1 rfl fun r12 => ?_
          refine g_nil ?_
          refine z_for (g := fun s13 => [some (.val actual), some (.val expected), none]) (h := fun c => R.val c) (O := fun _ _ => True) rfl rfl (fun d15 s13 => ?_) (fun s14 => ?_) fun c nv o => ?_
          · refine a_nm (nv1 := [some (.val actual), some (.val expected), some (.val d15)]) rfl ?_
            refine b_ife ?_
            refine x_not ?_
            refine x_op1 ?_
            refine o_exp rfl ?_
            refine x_call ?_
            refine g_cons rfl ?_
            refine x_op2 ?_
            refine o_var rfl ?_
            refine o_var rfl ?_
            refine z_op2 rfl rfl fun r17 => ?_
            refine g_cons rfl ?_
            refine x_op2 ?_
            refine o_var rfl ?_
            refine o_var rfl ?_
            refine z_op2 rfl rfl fun r18 => ?_
            refine g_nil ?_
            refine z_callP (ds := [r17, r18]) (ih _ (by omega) r17 r18) rfl trivial fun r19 => ?_
            refine z_op1 rfl fun r20 => ?_
            refine z_not fun r21 => ?_
            refine z_ife ?_ ?_
            · refine b_ret ?_
              refine x_bl ?_
              exact ql_ret rfl trivial
            · refine b_kill (nv1 := [some (.val actual), some (.val expected), none]) rfl ?_
              refine b_nil ?_
              exact ql_nx rfl
          · refine b_ret ?_
            refine x_bl ?_
            exact qf_ret rfl trivial
          exact qf_ret rfl o
      · refine b_ife ?_
        refine x_op1 ?_
        refine o_exp rfl ?_
        refine x_op1 ?_
        refine o_var rfl ?_
        refine z_op1 rfl fun r22 => ?_
        refine z_op1 rfl fun r23 => ?_
        refine z_ife ?_ ?_
        · refine b_ret ?_
          refine x_and ?_
          refine x_op1 ?_
          refine o_var rfl ?_
          refine z_op1 rfl fun r24 => ?_
          refine z_and ?_ fun r26 => ?_
          · refine e_end ?_
            refine x_op2 ?_
            refine o_var rfl ?_
            refine o_var rfl ?_
            refine z_op2 rfl rfl fun r25 => ?_
            exact qe_ok rfl rfl
          exact qf_ret rfl trivial
        · refine b_ife ?_
          refine x_op1 ?_
          refine o_exp rfl ?_
          refine x_op1 ?_
          refine o_var rfl ?_
          refine z_op1 rfl fun r27 => ?_
          refine z_op1 rfl fun r28 => ?_
          refine z_ife ?_ ?_
          · refine b_ret ?_
            refine x_and ?_
            refine x_op1 ?_
            refine o_var rfl ?_
            refine z_op1 rfl fun r29 => ?_
            refine z_and ?_ fun r31 => ?_
            · refine e_end ?_
              refine x_op2 ?_
              refine o_var rfl ?_
              refine o_var rfl ?_
              refine z_op2 rfl rfl fun r30 => ?_
              exact qe_ok rfl rfl
            exact qf_ret rfl trivial
          · refine b_ret ?_
            refine x_and ?_
            refine x_op1 ?_
            refine o_var rfl ?_
            refine z_op1 rfl fun r32 => ?_
            refine z_and ?_ fun r37 => ?_
            · refine e_end ?_
              refine x_and ?_
              refine x_not ?_
              refine x_op1 ?_
              refine o_var rfl ?_
              refine z_op1 rfl fun r33 => ?_
              refine z_not fun r34 => ?_
              refine z_and ?_ fun r36 => ?_
              · refine e_end ?_
                refine x_op2 ?_
                refine o_var rfl ?_
                refine o_var rfl ?_
                refine z_op2 rfl rfl fun r35 => ?_
                exact qe_ok rfl rfl
              exact qe_ok rfl rfl
            exact qf_ret rfl trivial
set_option maxHeartbeats 0 in
theorem q13 : ∀ (n : Nat), 2 ≤ n → ∀ (tape : List D) (top : D), FqL (f_law_holders tape top) (calls dfs (shsOf tt) n 13 [.lv (.l false) tape, .val top]) (fun c => R.val c.1) (fun c => [.lv (.l false) c.2, .val top]) := by
  intro n hn tape top
  obtain ⟨n, rfl⟩ : ∃ k, n = k + 1 := ⟨n - 1, by omega⟩
  rw [calls_succ (d := d13) rfl]
  refine fq_lent (X := fun _ => True) rfl ?_
  change L _ _ (evB _ _ d13.body [some (.lv (.l false) tape), some (.val top), none, none]) _
  unfold f_law_holders
  refine b_asg ?_
  refine x_lst ?_
  refine g_nil ?_
  refine z_lst (ds := []) rfl rfl ?_
  refine s_asg (nv1 := [some (.lv (.l false) tape), some (.val top), some (.lv (.l true) []), none]) rfl ?_
  refine b_kill (nv1 := [some (.lv (.l false) tape), some (.val top), some (.lv (.l true) []), none]) rfl ?_
  refine b_for ?_
  refine g_cons rfl ?_
  refine x_op2 ?_
  refine o_exp rfl ?_
  refine x_int ?_
  refine o_exp rfl ?_
  refine x_call ?_
  refine g_brw rfl ?_
  refine g_cons rfl ?_
  refine x_int ?_
  refine g_nil ?_
  refine z_callL (g := fun p1 => [some (.lv (.l false) p1.2), some (.val top), some (.lv (.l true) []), none]) (q11 _ (by omega) tape (D.int 12)) rfl rfl rfl (fun _ => rfl) fun p1 => ?_
  refine z_op2 rfl rfl fun r2 => ?_
  refine g_nil ?_
  refine z_fold (g := fun s3 => [some (.lv (.l false) s3.1), some (.val top), some (.lv (.l true) s3.2), none]) rfl rfl (fun d5 s3 => ?_) fun s4 => ?_
  · refine a_nm (nv1 := [some (.lv (.l false) s3.1), some (.val top), some (.lv (.l true) s3.2), some (.val d5)]) rfl ?_
    refine b_ife ?_
    refine x_op2 ?_
    refine o_exp rfl ?_
    refine x_call ?_
    refine g_brw rfl ?_
    refine g_cons rfl ?_
    refine x_int ?_
    refine g_nil ?_
    refine z_callL (g := fun p7 => [some (.lv (.l false) p7.2), some (.val top), some (.lv (.l true) s3.2), some (.val d5)]) (q11 _ (by omega) s3.1 (D.int 4)) rfl rfl rfl (fun _ => rfl) fun p7 => ?_
    refine o_exp rfl ?_
    refine x_int ?_
    refine z_op2 rfl rfl fun r8 => ?_
    refine z_ife ?_ ?_
    · refine b_expr ?_
      refine x_mth rfl ?_
      refine g_cons rfl ?_
      refine x_non ?_
      refine g_nil ?_
      refine z_app (g := fun l9 => [some (.lv (.l false) p7.2), some (.val top), some (.lv (.l true) l9), some (.val d5)]) rfl (fun _ => rfl) fun l9 => ?_
      refine b_kill (nv1 := [some (.lv (.l false) p7.2), some (.val top), some (.lv (.l true) l9), none]) rfl ?_
      refine b_nil ?_
      exact qn_nx rfl
    · refine b_expr ?_
      refine x_mth rfl ?_
      refine g_cons rfl ?_
      refine x_call ?_
      refine g_brw rfl ?_
      refine g_cons rfl ?_
      refine x_var rfl ?_
      refine g_nil ?_
      refine z_callL (g := fun p10 => [some (.lv (.l false) p10.2), some (.val top), some (.lv (.l true) s3.2), some (.val d5)]) (q11 _ (by omega) p7.2 top) rfl rfl rfl (fun _ => rfl) fun p10 => ?_
      refine g_nil ?_
      refine z_app (g := fun l11 => [some (.lv (.l false) p10.2), some (.val top), some (.lv (.l true) l11), some (.val d5)]) rfl (fun _ => rfl) fun l11 => ?_
      refine b_kill (nv1 := [some (.lv (.l false) p10.2), some (.val top), some (.lv (.l true) l11), none]) rfl ?_
      refine b_nil ?_
      exact qn_nx rfl
  refine b_ret ?_
  refine x_op1 ?_
  refine o_var rfl ?_
  refine z_op1 rfl fun r12 => ?_
  exact qf_ret rfl rfl
set_option maxHeartbeats 0 in
theorem q14 : ∀ (n : Nat), 3 ≤ n → ∀ (tape : List D) (most : D), FqL (f_law_seats tape most) (calls dfs (shsOf tt) n 14 [.lv (.l false) tape, .val most]) (fun c => R.val c.1) (fun c => [.lv (.l false) c.2, .val most]) := by
  intro n hn tape most
  obtain ⟨n, rfl⟩ : ∃ k, n = k + 1 := ⟨n - 1, by omega⟩
  rw [calls_succ (d := d14) rfl]
  refine fq_lent (X := fun _ => True) rfl ?_
  change L _ _ (evB _ _ d14.body [some (.lv (.l false) tape), some (.val most), none, none, none]) _
  unfold f_law_seats
  refine b_asg ?_
  refine x_op2 ?_
  refine o_exp rfl ?_
  refine x_lst ?_
  refine g_cons rfl ?_
  refine x_int ?_
  refine g_cons rfl ?_
  refine x_int ?_
  refine g_cons rfl ?_
  refine x_int ?_
  refine g_cons rfl ?_
  refine x_int ?_
  refine g_nil ?_
  refine z_lst (ds := [(D.int 12), (D.int 12), (D.int 4), (D.int 2)]) rfl rfl ?_
  refine o_exp rfl ?_
  refine x_call ?_
  refine g_brw rfl ?_
  refine g_cons rfl ?_
  refine x_int ?_
  refine g_nil ?_
  refine z_callL (g := fun p1 => [some (.lv (.l false) p1.2), some (.val most), none, none, none]) (q11 _ (by omega) tape (D.int 4)) rfl rfl rfl (fun _ => rfl) fun p1 => ?_
  refine z_op2 rfl rfl fun r2 => ?_
  refine s_asg (nv1 := [some (.lv (.l false) p1.2), some (.val most), some (.val r2), none, none]) rfl ?_
  refine b_asg ?_
  refine x_lst ?_
  refine g_nil ?_
  refine z_lst (ds := []) rfl rfl ?_
  refine s_asg (nv1 := [some (.lv (.l false) p1.2), some (.val most), some (.val r2), some (.lv (.l true) []), none]) rfl ?_
  refine b_kill (nv1 := [some (.lv (.l false) p1.2), some (.val most), some (.val r2), some (.lv (.l true) []), none]) rfl ?_
  refine b_for ?_
  refine g_cons rfl ?_
  refine x_op2 ?_
  refine o_exp rfl ?_
  refine x_int ?_
  refine o_exp rfl ?_
  refine x_call ?_
  refine g_brw rfl ?_
  refine g_cons rfl ?_
  refine x_var rfl ?_
  refine g_nil ?_
  refine z_callL (g := fun p3 => [some (.lv (.l false) p3.2), some (.val most), some (.val r2), some (.lv (.l true) []), none]) (q11 _ (by omega) p1.2 most) rfl rfl rfl (fun _ => rfl) fun p3 => ?_
  refine z_op2 rfl rfl fun r4 => ?_
  refine g_nil ?_
  refine z_fold (g := fun s5 => [some (.lv (.l false) s5.1), some (.val most), some (.val r2), some (.lv (.l true) s5.2), none]) rfl rfl (fun d7 s5 => ?_) fun s6 => ?_
  · refine a_nm (nv1 := [some (.lv (.l false) s5.1), some (.val most), some (.val r2), some (.lv (.l true) s5.2), some (.val d7)]) rfl ?_
    refine b_expr ?_
    refine x_mth rfl ?_
    refine g_cons rfl ?_
    refine x_call ?_
    refine g_brw rfl ?_
    refine g_cons rfl ?_
    refine x_var rfl ?_
    refine g_nil ?_
    refine z_callL (g := fun p9 => [some (.lv (.l false) p9.2), some (.val most), some (.val r2), some (.lv (.l true) s5.2), some (.val d7)]) (q13 _ (by omega) s5.1 r2) rfl rfl rfl (fun _ => rfl) fun p9 => ?_
    refine g_nil ?_
    refine z_app (g := fun l10 => [some (.lv (.l false) p9.2), some (.val most), some (.val r2), some (.lv (.l true) l10), some (.val d7)]) rfl (fun _ => rfl) fun l10 => ?_
    refine b_kill (nv1 := [some (.lv (.l false) p9.2), some (.val most), some (.val r2), some (.lv (.l true) l10), none]) rfl ?_
    refine b_nil ?_
    exact qn_nx rfl
  refine b_ret ?_
  refine x_op1 ?_
  refine o_var rfl ?_
  refine z_op1 rfl fun r11 => ?_
  exact qf_ret rfl rfl
set_option maxHeartbeats 0 in
theorem q15 : ∀ (n : Nat), 2 ≤ n → ∀ (tape : List D) (many : D), FqL (f_law_roll tape many) (calls dfs (shsOf tt) n 15 [.lv (.l false) tape, .val many]) (fun c => R.val c.1) (fun c => [.lv (.l false) c.2, .val many]) := by
  intro n hn tape many
  obtain ⟨n, rfl⟩ : ∃ k, n = k + 1 := ⟨n - 1, by omega⟩
  rw [calls_succ (d := d15) rfl]
  refine fq_lent (X := fun _ => True) rfl ?_
  change L _ _ (evB _ _ d15.body [some (.lv (.l false) tape), some (.val many), none]) _
  unfold f_law_roll
  refine b_ret ?_
  refine x_mop ?_
  refine o_exp rfl ?_
  refine x_str ?_
  refine z_rec rfl ?_
  refine o_exp rfl ?_
  refine x_comp ?_
  refine g_cons rfl ?_
  refine x_var rfl ?_
  refine g_nil ?_
  refine z_mapS (g := fun s3 => [some (.lv (.l false) s3), some (.val many), none]) (g2 := fun s3 => [some (.lv (.l false) s3), some (.val many), none]) rfl rfl (fun _ => rfl) (fun d1 s3 => ?_) fun p6 => ?_
  · refine t_go ?_
    refine a_nm (nv1 := [some (.lv (.l false) s3), some (.val many), some (.val d1)]) rfl ?_
    refine c_nil ?_
    refine t_true ?_
    refine x_op2 ?_
    refine o_exp rfl ?_
    refine x_str ?_
    refine o_exp rfl ?_
    refine x_call ?_
    refine g_brw rfl ?_
    refine g_cons rfl ?_
    refine x_int ?_
    refine g_nil ?_
    refine z_callL (g := fun p4 => [some (.lv (.l false) p4.2), some (.val many), some (.val d1)]) (q11 _ (by omega) s3 (D.int 6)) rfl rfl rfl (fun _ => rfl) fun p4 => ?_
    refine z_op2 rfl rfl fun r5 => ?_
    exact qt rfl
  refine z_mop rfl rfl fun r7 => ?_
  exact qf_ret rfl rfl
set_option maxHeartbeats 0 in
theorem q16 : ∀ (n : Nat), 1 ≤ n → ∀ (seats : D) (roll : D) (chamber : D), FqP (f_law_tally seats roll chamber) (calls dfs (shsOf tt) n 16 [.val seats, .val roll, .val chamber]) (fun c => R.val c) [.val seats, .val roll, .val chamber] := by
  intro n hn seats roll chamber
  obtain ⟨n, rfl⟩ : ∃ k, n = k + 1 := ⟨n - 1, by omega⟩
  rw [calls_succ (d := d16) rfl]
  refine fq_pure (ds := [seats, roll, chamber]) rfl ?_
  change L _ _ (evB _ _ d16.body [some (.val seats), some (.val roll), some (.val chamber), none, none, none]) _
  unfold f_law_tally
  refine b_ife ?_
  refine x_op2 ?_
  refine o_var rfl ?_
  refine o_exp rfl ?_
  refine x_op1 ?_
  refine o_var rfl ?_
  refine z_op1 rfl fun r1 => ?_
  refine z_op2 rfl rfl fun r2 => ?_
  refine z_ife ?_ ?_
  · refine b_ret ?_
    refine x_tup ?_
    refine g_cons rfl ?_
    refine x_int ?_
    refine g_cons rfl ?_
    refine x_int ?_
    refine g_cons rfl ?_
    refine x_int ?_
    refine g_cons rfl ?_
    refine x_int ?_
    refine g_nil ?_
    refine z_tup (ds := [(D.int 0), (D.int 0), (D.int 0), (D.int 0)]) rfl rfl ?_
    exact qf_ret rfl trivial
  · refine b_asg ?_
    refine x_lst ?_
    refine g_cons rfl ?_
    refine x_int ?_
    refine g_cons rfl ?_
    refine x_int ?_
    refine g_cons rfl ?_
    refine x_int ?_
    refine g_nil ?_
    refine z_lst (ds := [(D.int 0), (D.int 0), (D.int 0)]) rfl rfl ?_
    refine s_asg (nv1 := [some (.val seats), some (.val roll), some (.val chamber), some (.lv (.l true) [(D.int 0), (D.int 0), (D.int 0)]), none, none]) rfl ?_
    refine b_kill (nv1 := [some (.val seats), some (.val roll), some (.val chamber), some (.lv (.l true) [(D.int 0), (D.int 0), (D.int 0)]), none, none]) rfl ?_
    refine b_for ?_
    refine g_cons rfl ?_
    refine x_op2 ?_
    refine o_var rfl ?_
    refine o_var rfl ?_
    refine z_op2 rfl rfl fun r3 => ?_
    refine g_nil ?_
    refine z_fold (g := fun s4 => [some (.val seats), some (.val roll), some (.val chamber), some (.lv (.l true) s4), none, none]) rfl rfl (fun d6 s4 => ?_) fun s5 => ?_
    · refine a_nm (nv1 := [some (.val seats), some (.val roll), some (.val chamber), some (.lv (.l true) s4), some (.val d6), none]) rfl ?_
      refine b_ife ?_
      refine x_and ?_
      refine x_op1 ?_
      refine o_var rfl ?_
      refine z_op1 rfl fun r8 => ?_
      refine z_and ?_ fun r14 => ?_
      · refine e_end ?_
        refine x_and ?_
        refine x_op2 ?_
        refine o_var rfl ?_
        refine o_exp rfl ?_
        refine x_op1 ?_
        refine o_var rfl ?_
        refine z_op1 rfl fun r9 => ?_
        refine z_op2 rfl rfl fun r10 => ?_
        refine z_and ?_ fun r13 => ?_
        · refine e_end ?_
          refine x_op2 ?_
          refine o_exp rfl ?_
          refine x_op2 ?_
          refine o_var rfl ?_
          refine o_var rfl ?_
          refine z_op2 rfl rfl fun r11 => ?_
          refine o_exp rfl ?_
          refine x_str ?_
          refine z_op2 rfl rfl fun r12 => ?_
          exact qe_ok rfl rfl
        exact qe_ok rfl rfl
      refine z_ife ?_ ?_
      · refine b_asg ?_
        refine x_mop ?_
        refine o_exp rfl ?_
        refine x_str ?_
        refine z_rec rfl ?_
        refine o_exp rfl ?_
        refine x_op2 ?_
        refine o_var rfl ?_
        refine o_var rfl ?_
        refine z_op2 rfl rfl fun r15 => ?_
        refine z_mop rfl rfl fun r16 => ?_
        refine s_asg (nv1 := [some (.val seats), some (.val roll), some (.val chamber), some (.lv (.l true) s4), some (.val d6), some (.val r16)]) rfl ?_
        refine b_sti ?_
        refine x_op2 ?_
        refine o_exp rfl ?_
        refine x_op2 ?_
        refine o_var rfl ?_
        refine o_var rfl ?_
        refine z_op2 rfl rfl fun r17 => ?_
        refine o_exp rfl ?_
        refine x_int ?_
        refine z_op2 rfl rfl fun r18 => ?_
        refine s_sti rfl ?_
        refine x_var rfl ?_
        refine z_st (g := fun l19 => [some (.val seats), some (.val roll), some (.val chamber), some (.lv (.l true) l19), some (.val d6), some (.val r16)]) rfl (fun _ => rfl) fun l19 => ?_
        refine b_kill (nv1 := [some (.val seats), some (.val roll), some (.val chamber), some (.lv (.l true) l19), none, none]) rfl ?_
        refine b_nil ?_
        exact qn_nx rfl
      · refine b_kill (nv1 := [some (.val seats), some (.val roll), some (.val chamber), some (.lv (.l true) s4), none, none]) rfl ?_
        refine b_nil ?_
        exact qn_nx rfl
    refine b_ret ?_
    refine x_tup ?_
    refine g_cons rfl ?_
    refine x_op1 ?_
    refine o_exp rfl ?_
    refine x_op2 ?_
    refine o_var rfl ?_
    refine o_var rfl ?_
    refine z_op2 rfl rfl fun r20 => ?_
    refine z_op1 rfl fun r21 => ?_
    refine g_cons rfl ?_
    refine x_op2 ?_
    refine o_var rfl ?_
    refine o_exp rfl ?_
    refine x_int ?_
    refine z_op2 rfl rfl fun r22 => ?_
    refine g_cons rfl ?_
    refine x_op2 ?_
    refine o_var rfl ?_
    refine o_exp rfl ?_
    refine x_int ?_
    refine z_op2 rfl rfl fun r23 => ?_
    refine g_cons rfl ?_
    refine x_op2 ?_
    refine o_var rfl ?_
    refine o_exp rfl ?_
    refine x_int ?_
    refine z_op2 rfl rfl fun r24 => ?_
    refine g_nil ?_
    refine z_tup (ds := [r21, r22, r23, r24]) rfl rfl ?_
    exact qf_ret rfl trivial
set_option maxHeartbeats 0 in
theorem q17 : ∀ (n : Nat), 2 ≤ n → ∀ (tape : List D), FqL (f_law_limits tape) (calls dfs (shsOf tt) n 17 [.lv (.l false) tape]) (fun c => R.val c.1) (fun c => [.lv (.l false) c.2]) := by
  intro n hn tape
  obtain ⟨n, rfl⟩ : ∃ k, n = k + 1 := ⟨n - 1, by omega⟩
  rw [calls_succ (d := d17) rfl]
  refine fq_lent (X := fun _ => True) rfl ?_
  change L _ _ (evB _ _ d17.body [some (.lv (.l false) tape), none, none]) _
  unfold f_law_limits
  refine b_asg ?_
  refine x_op2 ?_
  refine o_exp rfl ?_
  refine x_lst ?_
  refine g_cons rfl ?_
  refine x_int ?_
  refine g_cons rfl ?_
  refine x_int ?_
  refine g_cons rfl ?_
  refine x_int ?_
  refine g_cons rfl ?_
  refine x_call ?_
  refine g_brw rfl ?_
  refine g_cons rfl ?_
  refine x_int ?_
  refine g_nil ?_
  refine z_callL (g := fun p1 => [some (.lv (.l false) p1.2), none, none]) (q11 _ (by omega) tape (D.int 9)) rfl rfl rfl (fun _ => rfl) fun p1 => ?_
  refine g_nil ?_
  refine z_lst (ds := [(D.int 0), (D.int 1), (D.int 3), p1.1]) rfl rfl ?_
  refine o_exp rfl ?_
  refine x_call ?_
  refine g_brw rfl ?_
  refine g_cons rfl ?_
  refine x_int ?_
  refine g_nil ?_
  refine z_callL (g := fun p2 => [some (.lv (.l false) p2.2), none, none]) (q11 _ (by omega) p1.2 (D.int 4)) rfl rfl rfl (fun _ => rfl) fun p2 => ?_
  refine z_op2 rfl rfl fun r3 => ?_
  refine s_asg (nv1 := [some (.lv (.l false) p2.2), some (.val r3), none]) rfl ?_
  refine b_ret ?_
  refine x_op1 ?_
  refine o_exp rfl ?_
  refine x_comp ?_
  refine g_cons rfl ?_
  refine x_var rfl ?_
  refine g_nil ?_
  refine z_mapS (g := fun s6 => [some (.lv (.l false) s6), some (.val r3), none]) (g2 := fun s6 => [some (.lv (.l false) s6), some (.val r3), none]) rfl rfl (fun _ => rfl) (fun d4 s6 => ?_) fun p10 => ?_
  · refine t_go ?_
    refine a_nm (nv1 := [some (.lv (.l false) s6), some (.val r3), some (.val d4)]) rfl ?_
    refine c_nil ?_
    refine t_true ?_
    refine x_call ?_
    refine g_brw rfl ?_
    refine g_cons rfl ?_
    refine x_op2 ?_
    refine o_exp rfl ?_
    refine x_lst ?_
    refine g_cons rfl ?_
    refine x_int ?_
    refine g_cons rfl ?_
    refine x_int ?_
    refine g_cons rfl ?_
    refine x_int ?_
    refine g_cons rfl ?_
    refine x_int ?_
    refine g_nil ?_
    refine z_lst (ds := [(D.int 3), (D.int 14), (D.int 14), (D.int 1001)]) rfl rfl ?_
    refine o_exp rfl ?_
    refine x_call ?_
    refine g_brw rfl ?_
    refine g_cons rfl ?_
    refine x_int ?_
    refine g_nil ?_
    refine z_callL (g := fun p7 => [some (.lv (.l false) p7.2), some (.val r3), some (.val d4)]) (q11 _ (by omega) s6 (D.int 4)) rfl rfl rfl (fun _ => rfl) fun p7 => ?_
    refine z_op2 rfl rfl fun r8 => ?_
    refine g_nil ?_
    refine z_callL (g := fun p9 => [some (.lv (.l false) p9.2), some (.val r3), some (.val d4)]) (q11 _ (by omega) p7.2 r8) rfl rfl rfl (fun _ => rfl) fun p9 => ?_
    exact qt rfl
  refine z_op1 rfl fun r11 => ?_
  exact qf_ret rfl rfl
set_option maxHeartbeats 0 in
theorem q18 : ∀ (n : Nat), 2 ≤ n → ∀ (tape : List D), FqL (f_law_leader tape) (calls dfs (shsOf tt) n 18 [.lv (.l false) tape]) (fun c => R.val c.1) (fun c => [.lv (.l false) c.2]) := by
  intro n hn tape
  obtain ⟨n, rfl⟩ : ∃ k, n = k + 1 := ⟨n - 1, by omega⟩
  rw [calls_succ (d := d18) rfl]
  refine fq_lent (X := fun _ => True) rfl ?_
  change L _ _ (evB _ _ d18.body [some (.lv (.l false) tape)]) _
  unfold f_law_leader
  refine b_ret ?_
  refine x_op2 ?_
  refine o_exp rfl ?_
  refine x_lst ?_
  refine g_cons rfl ?_
  refine x_non ?_
  refine g_cons rfl ?_
  refine x_call ?_
  refine g_brw rfl ?_
  refine g_cons rfl ?_
  refine x_int ?_
  refine g_nil ?_
  refine z_callL (g := fun p1 => [some (.lv (.l false) p1.2)]) (q11 _ (by omega) tape (D.int 12)) rfl rfl rfl (fun _ => rfl) fun p1 => ?_
  refine g_nil ?_
  refine z_lst (ds := [D.non, p1.1]) rfl rfl ?_
  refine o_exp rfl ?_
  refine x_op1 ?_
  refine o_exp rfl ?_
  refine x_op2 ?_
  refine o_exp rfl ?_
  refine x_call ?_
  refine g_brw rfl ?_
  refine g_cons rfl ?_
  refine x_int ?_
  refine g_nil ?_
  refine z_callL (g := fun p2 => [some (.lv (.l false) p2.2)]) (q11 _ (by omega) p1.2 (D.int 3)) rfl rfl rfl (fun _ => rfl) fun p2 => ?_
  refine o_exp rfl ?_
  refine x_int ?_
  refine z_op2 rfl rfl fun r3 => ?_
  refine z_op1 rfl fun r4 => ?_
  refine z_op2 rfl rfl fun r5 => ?_
  exact qf_ret rfl rfl
set_option maxHeartbeats 0 in
theorem q19 : ∀ (n : Nat), 2 ≤ n → ∀ (tape : List D), FqL (f_law_threshold tape) (calls dfs (shsOf tt) n 19 [.lv (.l false) tape]) (fun c => R.val c.1) (fun c => [.lv (.l false) c.2]) := by
  intro n hn tape
  obtain ⟨n, rfl⟩ : ∃ k, n = k + 1 := ⟨n - 1, by omega⟩
  rw [calls_succ (d := d19) rfl]
  refine fq_lent (X := fun _ => True) rfl ?_
  change L _ _ (evB _ _ d19.body [some (.lv (.l false) tape), none]) _
  unfold f_law_threshold
  refine b_asg ?_
  refine x_call ?_
  refine g_brw rfl ?_
  refine g_cons rfl ?_
  refine x_int ?_
  refine g_nil ?_
  refine z_callL (g := fun p1 => [some (.lv (.l false) p1.2), none]) (q11 _ (by omega) tape (D.int 8)) rfl rfl rfl (fun _ => rfl) fun p1 => ?_
  refine s_asg (nv1 := [some (.lv (.l false) p1.2), some (.val p1.1)]) rfl ?_
  refine b_ife ?_
  refine x_op2 ?_
  refine o_var rfl ?_
  refine o_exp rfl ?_
  refine x_int ?_
  refine z_op2 rfl rfl fun r2 => ?_
  refine z_ife ?_ ?_
  · refine b_ret ?_
    refine x_tup ?_
    refine g_cons rfl ?_
    refine x_str ?_
    refine g_cons rfl ?_
    refine x_call ?_
    refine g_brw rfl ?_
    refine g_cons rfl ?_
    refine x_op2 ?_
    refine o_exp rfl ?_
    refine x_lst ?_
    refine g_cons rfl ?_
    refine x_int ?_
    refine g_cons rfl ?_
    refine x_int ?_
    refine g_nil ?_
    refine z_lst (ds := [(D.int 3), (D.int 8)]) rfl rfl ?_
    refine o_exp rfl ?_
    refine x_call ?_
    refine g_brw rfl ?_
    refine g_cons rfl ?_
    refine x_int ?_
    refine g_nil ?_
    refine z_callL (g := fun p3 => [some (.lv (.l false) p3.2), some (.val p1.1)]) (q11 _ (by omega) p1.2 (D.int 2)) rfl rfl rfl (fun _ => rfl) fun p3 => ?_
    refine z_op2 rfl rfl fun r4 => ?_
    refine g_nil ?_
    refine z_callL (g := fun p5 => [some (.lv (.l false) p5.2), some (.val p1.1)]) (q11 _ (by omega) p3.2 r4) rfl rfl rfl (fun _ => rfl) fun p5 => ?_
    refine g_nil ?_
    refine z_tup (ds := [(D.str "parameter"), p5.1]) rfl rfl ?_
    exact qf_ret rfl rfl
  · refine b_ife ?_
    refine x_op2 ?_
    refine o_var rfl ?_
    refine o_exp rfl ?_
    refine x_int ?_
    refine z_op2 rfl rfl fun r6 => ?_
    refine z_ife ?_ ?_
    · refine b_ret ?_
      refine x_op2 ?_
      refine o_exp rfl ?_
      refine x_lst ?_
      refine g_cons rfl ?_
      refine x_int ?_
      refine g_cons rfl ?_
      refine x_int ?_
      refine g_cons rfl ?_
      refine x_int ?_
      refine g_cons rfl ?_
      refine x_int ?_
      refine g_nil ?_
      refine z_lst (ds := [(D.int 0), (D.int 1), (D.int 999), (D.int 1000)]) rfl rfl ?_
      refine o_exp rfl ?_
      refine x_call ?_
      refine g_brw rfl ?_
      refine g_cons rfl ?_
      refine x_int ?_
      refine g_nil ?_
      refine z_callL (g := fun p7 => [some (.lv (.l false) p7.2), some (.val p1.1)]) (q11 _ (by omega) p1.2 (D.int 4)) rfl rfl rfl (fun _ => rfl) fun p7 => ?_
      refine z_op2 rfl rfl fun r8 => ?_
      exact qf_ret rfl rfl
    · refine b_ife ?_
      refine x_op2 ?_
      refine o_var rfl ?_
      refine o_exp rfl ?_
      refine x_int ?_
      refine z_op2 rfl rfl fun r9 => ?_
      refine z_ife ?_ ?_
      · refine b_ret ?_
        refine x_call ?_
        refine g_brw rfl ?_
        refine g_cons rfl ?_
        refine x_int ?_
        refine g_nil ?_
        refine z_callL (g := fun p10 => [some (.lv (.l false) p10.2), some (.val p1.1)]) (q11 _ (by omega) p1.2 (D.int 1001)) rfl rfl rfl (fun _ => rfl) fun p10 => ?_
        exact qf_ret rfl rfl
      · refine b_ret ?_
        refine x_call ?_
        refine g_brw rfl ?_
        refine g_cons rfl ?_
        refine x_int ?_
        refine g_nil ?_
        refine z_callL (g := fun p11 => [some (.lv (.l false) p11.2), some (.val p1.1)]) (q11 _ (by omega) p1.2 (D.int 14)) rfl rfl rfl (fun _ => rfl) fun p11 => ?_
        exact qf_ret rfl rfl
set_option maxHeartbeats 0 in
theorem q20 : ∀ (n : Nat), 3 ≤ n → ∀ (tape : List D) (chambers : D) (kinds : D), FqL (f_law_simple tape chambers kinds) (calls dfs (shsOf tt) n 20 [.lv (.l false) tape, .val chambers, .val kinds]) (fun c => R.val c.1) (fun c => [.lv (.l false) c.2, .val chambers, .val kinds]) := by
  intro n hn tape chambers kinds
  obtain ⟨n, rfl⟩ : ∃ k, n = k + 1 := ⟨n - 1, by omega⟩
  rw [calls_succ (d := d20) rfl]
  refine fq_lent (X := fun _ => True) rfl ?_
  change L _ _ (evB _ _ d20.body [some (.lv (.l false) tape), some (.val chambers), some (.val kinds), none, none, none, none]) _
  unfold f_law_simple
  refine b_asg ?_
  refine x_op2 ?_
  refine o_var rfl ?_
  refine o_exp rfl ?_
  refine x_call ?_
  refine g_brw rfl ?_
  refine g_cons rfl ?_
  refine x_op1 ?_
  refine o_var rfl ?_
  refine z_op1 rfl fun r1 => ?_
  refine g_nil ?_
  refine z_callL (g := fun p2 => [some (.lv (.l false) p2.2), some (.val chambers), some (.val kinds), none, none, none, none]) (q11 _ (by omega) tape r1) rfl rfl rfl (fun _ => rfl) fun p2 => ?_
  refine z_op2 rfl rfl fun r3 => ?_
  refine s_asg (nv1 := [some (.lv (.l false) p2.2), some (.val chambers), some (.val kinds), some (.val r3), none, none, none]) rfl ?_
  refine b_asg ?_
  refine x_op2 ?_
  refine o_var rfl ?_
  refine o_exp rfl ?_
  refine x_call ?_
  refine g_brw rfl ?_
  refine g_cons rfl ?_
  refine x_op1 ?_
  refine o_var rfl ?_
  refine z_op1 rfl fun r4 => ?_
  refine g_nil ?_
  refine z_callL (g := fun p5 => [some (.lv (.l false) p5.2), some (.val chambers), some (.val kinds), some (.val r3), none, none, none]) (q11 _ (by omega) p2.2 r4) rfl rfl rfl (fun _ => rfl) fun p5 => ?_
  refine z_op2 rfl rfl fun r6 => ?_
  refine s_asg (nv1 := [some (.lv (.l false) p5.2), some (.val chambers), some (.val kinds), some (.val r3), some (.val r6), none, none]) rfl ?_
  refine b_ife ?_
  refine x_op2 ?_
  refine o_var rfl ?_
  refine o_exp rfl ?_
  refine x_str ?_
  refine z_op2 rfl rfl fun r7 => ?_
  refine z_ife ?_ ?_
  · refine b_ret ?_
    refine x_tup ?_
    refine g_cons rfl ?_
    refine x_str ?_
    refine g_nil ?_
    refine z_tup (ds := [(D.str "premier")]) rfl rfl ?_
    exact qf_ret rfl rfl
  · refine b_ife ?_
    refine x_or ?_
    refine x_op2 ?_
    refine o_var rfl ?_
    refine o_exp rfl ?_
    refine x_str ?_
    refine z_op2 rfl rfl fun r8 => ?_
    refine z_or ?_ fun r10 => ?_
    · refine e_end ?_
      refine x_op2 ?_
      refine o_var rfl ?_
      refine o_exp rfl ?_
      refine x_str ?_
      refine z_op2 rfl rfl fun r9 => ?_
      exact qe_ok rfl rfl
    refine z_ife ?_ ?_
    · refine b_ret ?_
      refine x_tup ?_
      refine g_cons rfl ?_
      refine x_var rfl ?_
      refine g_cons rfl ?_
      refine x_var rfl ?_
      refine g_cons rfl ?_
      refine x_call ?_
      refine g_brw rfl ?_
      refine g_nil ?_
      refine z_callL (g := fun p11 => [some (.lv (.l false) p11.2), some (.val chambers), some (.val kinds), some (.val r3), some (.val r6), none, none]) (q19 _ (by omega) p5.2) rfl rfl rfl (fun _ => rfl) fun p11 => ?_
      refine g_nil ?_
      refine z_tup (ds := [r6, r3, p11.1]) rfl rfl ?_
      exact qf_ret rfl rfl
    · refine b_asg ?_
      refine x_op2 ?_
      refine o_exp rfl ?_
      refine x_lst ?_
      refine g_cons rfl ?_
      refine x_str ?_
      refine g_cons rfl ?_
      refine x_str ?_
      refine g_cons rfl ?_
      refine x_str ?_
      refine g_nil ?_
      refine z_lst (ds := [(D.str "seats"), (D.str "attending"), (D.str "voting")]) rfl rfl ?_
      refine o_exp rfl ?_
      refine x_call ?_
      refine g_brw rfl ?_
      refine g_cons rfl ?_
      refine x_int ?_
      refine g_nil ?_
      refine z_callL (g := fun p12 => [some (.lv (.l false) p12.2), some (.val chambers), some (.val kinds), some (.val r3), some (.val r6), none, none]) (q11 _ (by omega) p5.2 (D.int 3)) rfl rfl rfl (fun _ => rfl) fun p12 => ?_
      refine z_op2 rfl rfl fun r13 => ?_
      refine s_asg (nv1 := [some (.lv (.l false) p12.2), some (.val chambers), some (.val kinds), some (.val r3), some (.val r6), some (.val r13), none]) rfl ?_
      refine b_ife ?_
      refine x_op2 ?_
      refine o_var rfl ?_
      refine o_exp rfl ?_
      refine x_str ?_
      refine z_op2 rfl rfl fun r14 => ?_
      refine z_ife ?_ ?_
      · refine b_ret ?_
        refine x_tup ?_
        refine g_cons rfl ?_
        refine x_str ?_
        refine g_cons rfl ?_
        refine x_var rfl ?_
        refine g_cons rfl ?_
        refine x_var rfl ?_
        refine g_nil ?_
        refine z_tup (ds := [(D.str "majority"), r3, r13]) rfl rfl ?_
        exact qf_ret rfl rfl
      · refine b_asg ?_
        refine x_op2 ?_
        refine o_exp rfl ?_
        refine x_int ?_
        refine o_exp rfl ?_
        refine x_call ?_
        refine g_brw rfl ?_
        refine g_cons rfl ?_
        refine x_int ?_
        refine g_nil ?_
        refine z_callL (g := fun p15 => [some (.lv (.l false) p15.2), some (.val chambers), some (.val kinds), some (.val r3), some (.val r6), some (.val r13), none]) (q11 _ (by omega) p12.2 (D.int 12)) rfl rfl rfl (fun _ => rfl) fun p15 => ?_
        refine z_op2 rfl rfl fun r16 => ?_
        refine s_asg (nv1 := [some (.lv (.l false) p15.2), some (.val chambers), some (.val kinds), some (.val r3), some (.val r6), some (.val r13), some (.val r16)]) rfl ?_
        refine b_ret ?_
        refine x_tup ?_
        refine g_cons rfl ?_
        refine x_str ?_
        refine g_cons rfl ?_
        refine x_var rfl ?_
        refine g_cons rfl ?_
        refine x_op2 ?_
        refine o_exp rfl ?_
        refine x_int ?_
        refine o_exp rfl ?_
        refine x_call ?_
        refine g_brw rfl ?_
        refine g_cons rfl ?_
        refine x_var rfl ?_
        refine g_nil ?_
        refine z_callL (g := fun p17 => [some (.lv (.l false) p17.2), some (.val chambers), some (.val kinds), some (.val r3), some (.val r6), some (.val r13), some (.val r16)]) (q11 _ (by omega) p15.2 r16) rfl rfl rfl (fun _ => rfl) fun p17 => ?_
        refine z_op2 rfl rfl fun r18 => ?_
        refine g_cons rfl ?_
        refine x_var rfl ?_
        refine g_cons rfl ?_
        refine x_var rfl ?_
        refine g_nil ?_
        refine z_tup (ds := [(D.str "fraction"), r3, r18, r16, r13]) rfl rfl ?_
        exact qf_ret rfl rfl
set_option maxHeartbeats 0 in
theorem q21 : ∀ (fuel n : Nat), 3 + fuel ≤ n → ∀ (tape : List D) (chambers : D) (kinds : D) (depth : D), FqL (f_law_rule_11 fuel tape chambers kinds depth) (calls dfs (shsOf tt) n 21 [.lv (.l false) tape, .val chambers, .val kinds, .val depth]) (fun c => R.val c.1) (fun c => [.lv (.l false) c.2, .val chambers, .val kinds, .val depth]) := by
  intro fuel
  induction fuel with
  | zero => intro n hn tape chambers kinds depth; exact ⟨trivial⟩
  | succ fuel ih =>
    intro n hn tape chambers kinds depth
    obtain ⟨n, rfl⟩ : ∃ k, n = k + 1 := ⟨n - 1, by omega⟩
    rw [calls_succ (d := d21) rfl]
    refine fq_lent (X := fun _ => True) rfl ?_
    change L _ _ (evB _ _ d21.body [some (.lv (.l false) tape), some (.val chambers), some (.val kinds), some (.val depth), none, none]) _
    rw [f_law_rule_11]
    refine b_asg ?_
    refine x_call ?_
    refine g_brw rfl ?_
    refine g_cons rfl ?_
    refine x_int ?_
    refine g_nil ?_
    refine z_callL (g := fun p1 => [some (.lv (.l false) p1.2), some (.val chambers), some (.val kinds), some (.val depth), none, none]) (q11 _ (by omega) tape (D.int 7)) rfl rfl rfl (fun _ => rfl) fun p1 => ?_
    refine s_asg (nv1 := [some (.lv (.l false) p1.2), some (.val chambers), some (.val kinds), some (.val depth), some (.val p1.1), none]) rfl ?_
    refine b_ife ?_
    refine x_and ?_
    refine x_op2 ?_
    refine o_var rfl ?_
    refine o_exp rfl ?_
    refine x_int ?_
    refine z_op2 rfl rfl fun r2 => ?_
    refine z_and ?_ fun r4 => ?_
    · refine e_end ?_
      refine x_op2 ?_
      refine o_var rfl ?_
      refine o_exp rfl ?_
      refine x_int ?_
      refine z_op2 rfl rfl fun r3 => ?_
      exact qe_ok rfl rfl
    refine z_ife ?_ ?_
    · refine b_asg ?_
      refine x_call ?_
      refine g_brw rfl ?_
      refine g_cons rfl ?_
      refine x_var rfl ?_
      refine g_cons rfl ?_
      refine x_var rfl ?_
      refine g_cons rfl ?_
      refine x_op2 ?_
      refine o_var rfl ?_
      refine o_exp rfl ?_
      refine x_int ?_
      refine z_op2 rfl rfl fun r5 => ?_
      refine g_nil ?_
      refine z_callL (g := fun p6 => [some (.lv (.l false) p6.2), some (.val chambers), some (.val kinds), some (.val depth), some (.val p1.1), none]) (ih _ (by omega) p1.2 chambers kinds r5) rfl rfl rfl (fun _ => rfl) fun p6 => ?_
      refine s_asg (nv1 := [some (.lv (.l false) p6.2), some (.val chambers), some (.val kinds), some (.val depth), some (.val p1.1), some (.val p6.1)]) rfl ?_
      refine b_ret ?_
      refine x_tup ?_
      refine g_cons rfl ?_
      refine x_op2 ?_
      refine o_exp rfl ?_
      refine x_lst ?_
      refine g_cons rfl ?_
      refine x_str ?_
      refine g_cons rfl ?_
      refine x_str ?_
      refine g_cons rfl ?_
      refine x_str ?_
      refine g_cons rfl ?_
      refine x_str ?_
      refine g_nil ?_
      refine z_lst (ds := [(D.str "all"), (D.str "any"), (D.str "all"), (D.str "any")]) rfl rfl ?_
      refine o_var rfl ?_
      refine z_op2 rfl rfl fun r7 => ?_
      refine g_cons rfl ?_
      refine x_var rfl ?_
      refine g_cons rfl ?_
      refine x_call ?_
      refine g_brw rfl ?_
      refine g_cons rfl ?_
      refine x_var rfl ?_
      refine g_cons rfl ?_
      refine x_var rfl ?_
      refine g_cons rfl ?_
      refine x_op2 ?_
      refine o_var rfl ?_
      refine o_exp rfl ?_
      refine x_int ?_
      refine z_op2 rfl rfl fun r8 => ?_
      refine g_nil ?_
      refine z_callL (g := fun p9 => [some (.lv (.l false) p9.2), some (.val chambers), some (.val kinds), some (.val depth), some (.val p1.1), some (.val p6.1)]) (ih _ (by omega) p6.2 chambers kinds r8) rfl rfl rfl (fun _ => rfl) fun p9 => ?_
      refine g_nil ?_
      refine z_tup (ds := [r7, p6.1, p9.1]) rfl rfl ?_
      exact qf_ret rfl rfl
    · refine b_ret ?_
      refine x_call ?_
      refine g_brw rfl ?_
      refine g_cons rfl ?_
      refine x_var rfl ?_
      refine g_cons rfl ?_
      refine x_var rfl ?_
      refine g_nil ?_
      refine z_callL (g := fun p10 => [some (.lv (.l false) p10.2), some (.val chambers), some (.val kinds), some (.val depth), some (.val p1.1), none]) (q20 _ (by omega) p1.2 chambers kinds) rfl rfl rfl (fun _ => rfl) fun p10 => ?_
      exact qf_ret rfl rfl
set_option maxHeartbeats 0 in
theorem q22 : ∀ (n : Nat), 1 ≤ n → ∀ (threshold : D) (limits : D), FqP (f_law_limit threshold limits) (calls dfs (shsOf tt) n 22 [.val threshold, .val limits]) (fun c => R.val c) [.val threshold, .val limits] := by
  intro n hn threshold limits
  obtain ⟨n, rfl⟩ : ∃ k, n = k + 1 := ⟨n - 1, by omega⟩
  rw [calls_succ (d := d22) rfl]
  refine fq_pure (ds := [threshold, limits]) rfl ?_
  change L _ _ (evB _ _ d22.body [some (.val threshold), some (.val limits)]) _
  unfold f_law_limit
  refine b_ife ?_
  refine x_op1 ?_
  refine o_exp rfl ?_
  refine x_op1 ?_
  refine o_var rfl ?_
  refine z_op1 rfl fun r1 => ?_
  refine z_op1 rfl fun r2 => ?_
  refine z_ife ?_ ?_
  · refine b_ife ?_
    refine x_op2 ?_
    refine o_exp rfl ?_
    refine x_op2 ?_
    refine o_var rfl ?_
    refine o_exp rfl ?_
    refine x_int ?_
    refine z_op2 rfl rfl fun r3 => ?_
    refine o_exp rfl ?_
    refine x_op1 ?_
    refine o_var rfl ?_
    refine z_op1 rfl fun r4 => ?_
    refine z_op2 rfl rfl fun r5 => ?_
    refine z_ife ?_ ?_
    · refine b_ret ?_
      refine x_op2 ?_
      refine o_var rfl ?_
      refine o_exp rfl ?_
      refine x_op2 ?_
      refine o_var rfl ?_
      refine o_exp rfl ?_
      refine x_int ?_
      refine z_op2 rfl rfl fun r6 => ?_
      refine z_op2 rfl rfl fun r7 => ?_
      exact qf_ret rfl trivial
    · refine b_ret ?_
      refine x_int ?_
      exact qf_ret rfl trivial
  · refine b_ret ?_
    refine x_mov rfl ?_
    exact qf_ret rfl trivial
set_option maxHeartbeats 0 in
theorem q23 : ∀ (n : Nat), 2 ≤ n → ∀ (rule : D) (counts : D) (limits : D), FqP (f_law_by_counts rule counts limits) (calls dfs (shsOf tt) n 23 [.val rule, .val counts, .val limits]) (fun c => R.val c) [.val rule, .val counts, .val limits] := by
  intro n hn rule counts limits
  obtain ⟨n, rfl⟩ : ∃ k, n = k + 1 := ⟨n - 1, by omega⟩
  rw [calls_succ (d := d23) rfl]
  refine fq_pure (ds := [rule, counts, limits]) rfl ?_
  change L _ _ (evB _ _ d23.body [some (.val rule), some (.val counts), some (.val limits), none, none]) _
  unfold f_law_by_counts
  refine b_asg ?_
  refine x_op2 ?_
  refine o_exp rfl ?_
  refine x_op2 ?_
  refine o_exp rfl ?_
  refine x_op2 ?_
  refine o_var rfl ?_
  refine o_exp rfl ?_
  refine x_int ?_
  refine z_op2 rfl rfl fun r1 => ?_
  refine o_exp rfl ?_
  refine x_op2 ?_
  refine o_var rfl ?_
  refine o_exp rfl ?_
  refine x_int ?_
  refine z_op2 rfl rfl fun r2 => ?_
  refine z_op2 rfl rfl fun r3 => ?_
  refine o_exp rfl ?_
  refine x_op2 ?_
  refine o_var rfl ?_
  refine o_exp rfl ?_
  refine x_int ?_
  refine z_op2 rfl rfl fun r4 => ?_
  refine z_op2 rfl rfl fun r5 => ?_
  refine s_asg (nv1 := [some (.val rule), some (.val counts), some (.val limits), some (.val r5), none]) rfl ?_
  refine b_ife ?_
  refine x_op2 ?_
  refine o_exp rfl ?_
  refine x_op2 ?_
  refine o_var rfl ?_
  refine o_exp rfl ?_
  refine x_int ?_
  refine z_op2 rfl rfl fun r6 => ?_
  refine o_exp rfl ?_
  refine x_str ?_
  refine z_op2 rfl rfl fun r7 => ?_
  refine z_ife ?_ ?_
  · refine b_ret ?_
    refine x_op2 ?_
    refine o_exp rfl ?_
    refine x_op2 ?_
    refine o_var rfl ?_
    refine o_exp rfl ?_
    refine x_int ?_
    refine z_op2 rfl rfl fun r8 => ?_
    refine o_exp rfl ?_
    refine x_call ?_
    refine g_cons rfl ?_
    refine x_op2 ?_
    refine o_var rfl ?_
    refine o_exp rfl ?_
    refine x_int ?_
    refine z_op2 rfl rfl fun r9 => ?_
    refine g_cons rfl ?_
    refine x_var rfl ?_
    refine g_nil ?_
    refine z_callP (ds := [r9, limits]) (q22 _ (by omega) r9 limits) rfl trivial fun r10 => ?_
    refine z_op2 rfl rfl fun r11 => ?_
    exact qf_ret rfl trivial
  · refine b_ife ?_
    refine x_op2 ?_
    refine o_exp rfl ?_
    refine x_op2 ?_
    refine o_var rfl ?_
    refine o_exp rfl ?_
    refine x_int ?_
    refine z_op2 rfl rfl fun r12 => ?_
    refine o_exp rfl ?_
    refine x_str ?_
    refine z_op2 rfl rfl fun r13 => ?_
    refine z_ife ?_ ?_
    · refine b_ret ?_
      refine x_op2 ?_
      refine o_var rfl ?_
      refine o_exp rfl ?_
      refine x_call ?_
      refine g_cons rfl ?_
      refine x_op2 ?_
      refine o_var rfl ?_
      refine o_exp rfl ?_
      refine x_int ?_
      refine z_op2 rfl rfl fun r14 => ?_
      refine g_cons rfl ?_
      refine x_var rfl ?_
      refine g_nil ?_
      refine z_callP (ds := [r14, limits]) (q22 _ (by omega) r14 limits) rfl trivial fun r15 => ?_
      refine z_op2 rfl rfl fun r16 => ?_
      exact qf_ret rfl trivial
    · refine b_asg ?_
      refine x_op2 ?_
      refine o_var rfl ?_
      refine o_exp rfl ?_
      refine x_int ?_
      refine z_op2 rfl rfl fun r17 => ?_
      refine s_asg (nv1 := [some (.val rule), some (.val counts), some (.val limits), some (.val r5), some (.val r17)]) rfl ?_
      refine b_ife ?_
      refine x_op2 ?_
      refine o_exp rfl ?_
      refine x_op2 ?_
      refine o_var rfl ?_
      refine o_exp rfl ?_
      refine x_op1 ?_
      refine o_exp rfl ?_
      refine x_int ?_
      refine z_op1 rfl fun r18 => ?_
      refine z_op2 rfl rfl fun r19 => ?_
      refine o_exp rfl ?_
      refine x_str ?_
      refine z_op2 rfl rfl fun r20 => ?_
      refine z_ifj (g := fun s21 => [some (.val rule), some (.val counts), none, none, some (.val s21)]) ?_ ?_ fun s21 => ?_
      · refine b_asg ?_
        refine x_var rfl ?_
        refine s_asg (nv1 := [some (.val rule), some (.val counts), some (.val limits), some (.val r5), some (.val r5)]) rfl ?_
        refine b_kill (nv1 := [some (.val rule), some (.val counts), none, none, some (.val r5)]) rfl ?_
        refine b_nil ?_
        exact qj_ok rfl
      · refine b_kill (nv1 := [some (.val rule), some (.val counts), none, none, some (.val r17)]) rfl ?_
        refine b_nil ?_
        exact qj_ok rfl
      refine b_ife ?_
      refine x_op2 ?_
      refine o_exp rfl ?_
      refine x_op2 ?_
      refine o_var rfl ?_
      refine o_exp rfl ?_
      refine x_op1 ?_
      refine o_exp rfl ?_
      refine x_int ?_
      refine z_op1 rfl fun r22 => ?_
      refine z_op2 rfl rfl fun r23 => ?_
      refine o_exp rfl ?_
      refine x_str ?_
      refine z_op2 rfl rfl fun r24 => ?_
      refine z_ifj (g := fun s28 => [some (.val rule), some (.val counts), none, none, some (.val s28)]) ?_ ?_ fun s28 => ?_
      · refine b_asg ?_
        refine x_op2 ?_
        refine o_exp rfl ?_
        refine x_op2 ?_
        refine o_var rfl ?_
        refine o_exp rfl ?_
        refine x_int ?_
        refine z_op2 rfl rfl fun r25 => ?_
        refine o_exp rfl ?_
        refine x_op2 ?_
        refine o_var rfl ?_
        refine o_exp rfl ?_
        refine x_int ?_
        refine z_op2 rfl rfl fun r26 => ?_
        refine z_op2 rfl rfl fun r27 => ?_
        refine s_asg (nv1 := [some (.val rule), some (.val counts), none, none, some (.val r27)]) rfl ?_
        refine b_kill (nv1 := [some (.val rule), some (.val counts), none, none, some (.val r27)]) rfl ?_
        refine b_nil ?_
        exact qj_ok rfl
      · refine b_kill (nv1 := [some (.val rule), some (.val counts), none, none, some (.val s21)]) rfl ?_
        refine b_nil ?_
        exact qj_ok rfl
      refine b_ife ?_
      refine x_op2 ?_
      refine o_exp rfl ?_
      refine x_op2 ?_
      refine o_var rfl ?_
      refine o_exp rfl ?_
      refine x_int ?_
      refine z_op2 rfl rfl fun r29 => ?_
      refine o_exp rfl ?_
      refine x_str ?_
      refine z_op2 rfl rfl fun r30 => ?_
      refine z_ife ?_ ?_
      · refine b_ret ?_
        refine x_op2 ?_
        refine o_exp rfl ?_
        refine x_op2 ?_
        refine o_exp rfl ?_
        refine x_int ?_
        refine o_exp rfl ?_
        refine x_op2 ?_
        refine o_var rfl ?_
        refine o_exp rfl ?_
        refine x_int ?_
        refine z_op2 rfl rfl fun r31 => ?_
        refine z_op2 rfl rfl fun r32 => ?_
        refine o_var rfl ?_
        refine z_op2 rfl rfl fun r33 => ?_
        exact qf_ret rfl trivial
      · refine b_ret ?_
        refine x_op2 ?_
        refine o_exp rfl ?_
        refine x_op2 ?_
        refine o_exp rfl ?_
        refine x_op2 ?_
        refine o_var rfl ?_
        refine o_exp rfl ?_
        refine x_int ?_
        refine z_op2 rfl rfl fun r34 => ?_
        refine o_exp rfl ?_
        refine x_op2 ?_
        refine o_var rfl ?_
        refine o_exp rfl ?_
        refine x_int ?_
        refine z_op2 rfl rfl fun r35 => ?_
        refine z_op2 rfl rfl fun r36 => ?_
        refine o_exp rfl ?_
        refine x_op2 ?_
        refine o_exp rfl ?_
        refine x_op2 ?_
        refine o_var rfl ?_
        refine o_exp rfl ?_
        refine x_int ?_
        refine z_op2 rfl rfl fun r37 => ?_
        refine o_var rfl ?_
        refine z_op2 rfl rfl fun r38 => ?_
        refine z_op2 rfl rfl fun r39 => ?_
        exact qf_ret rfl trivial
set_option maxHeartbeats 0 in
theorem q24 : ∀ (fuel n : Nat), 2 + fuel ≤ n → ∀ (rule : D) (seats : D) (roll : D) (limits : D) (leader : D), FqP (f_law_passes_11 fuel rule seats roll limits leader) (calls dfs (shsOf tt) n 24 [.val rule, .val seats, .val roll, .val limits, .val leader]) (fun c => R.val c) [.val rule, .val seats, .val roll, .val limits, .val leader] := by
  intro fuel
  induction fuel with
  | zero => intro n hn rule seats roll limits leader; exact ⟨trivial⟩
  | succ fuel ih =>
    intro n hn rule seats roll limits leader
    obtain ⟨n, rfl⟩ : ∃ k, n = k + 1 := ⟨n - 1, by omega⟩
    rw [calls_succ (d := d24) rfl]
    refine fq_pure (ds := [rule, seats, roll, limits, leader]) rfl ?_
    change L _ _ (evB _ _ d24.body [some (.val rule), some (.val seats), some (.val roll), some (.val limits), some (.val leader), none, none]) _
    rw [f_law_passes_11]
    refine b_ife ?_
    refine x_op2 ?_
    refine o_exp rfl ?_
    refine x_op2 ?_
    refine o_var rfl ?_
    refine o_exp rfl ?_
    refine x_int ?_
    refine z_op2 rfl rfl fun r1 => ?_
    refine o_exp rfl ?_
    refine x_str ?_
    refine z_op2 rfl rfl fun r2 => ?_
    refine z_ife ?_ ?_
    · refine b_ret ?_
      refine x_and ?_
      refine x_op1 ?_
      refine o_var rfl ?_
      refine z_op1 rfl fun r3 => ?_
      refine z_and ?_ fun r9 => ?_
      · refine e_end ?_
        refine x_and ?_
        refine x_op2 ?_
        refine o_var rfl ?_
        refine o_exp rfl ?_
        refine x_op1 ?_
        refine o_var rfl ?_
        refine z_op1 rfl fun r4 => ?_
        refine z_op2 rfl rfl fun r5 => ?_
        refine z_and ?_ fun r8 => ?_
        · refine e_end ?_
          refine x_op2 ?_
          refine o_exp rfl ?_
          refine x_op2 ?_
          refine o_var rfl ?_
          refine o_var rfl ?_
          refine z_op2 rfl rfl fun r6 => ?_
          refine o_exp rfl ?_
          refine x_str ?_
          refine z_op2 rfl rfl fun r7 => ?_
          exact qe_ok rfl rfl
        exact qe_ok rfl rfl
      exact qf_ret rfl trivial
    · refine b_ife ?_
      refine x_or ?_
      refine x_op2 ?_
      refine o_exp rfl ?_
      refine x_op2 ?_
      refine o_var rfl ?_
      refine o_exp rfl ?_
      refine x_int ?_
      refine z_op2 rfl rfl fun r10 => ?_
      refine o_exp rfl ?_
      refine x_str ?_
      refine z_op2 rfl rfl fun r11 => ?_
      refine z_or ?_ fun r14 => ?_
      · refine e_end ?_
        refine x_op2 ?_
        refine o_exp rfl ?_
        refine x_op2 ?_
        refine o_var rfl ?_
        refine o_exp rfl ?_
        refine x_int ?_
        refine z_op2 rfl rfl fun r12 => ?_
        refine o_exp rfl ?_
        refine x_str ?_
        refine z_op2 rfl rfl fun r13 => ?_
        exact qe_ok rfl rfl
      refine z_ife ?_ ?_
      · refine b_asg ?_
        refine x_call ?_
        refine g_cons rfl ?_
        refine x_op2 ?_
        refine o_var rfl ?_
        refine o_exp rfl ?_
        refine x_int ?_
        refine z_op2 rfl rfl fun r15 => ?_
        refine g_cons rfl ?_
        refine x_var rfl ?_
        refine g_cons rfl ?_
        refine x_var rfl ?_
        refine g_cons rfl ?_
        refine x_var rfl ?_
        refine g_cons rfl ?_
        refine x_var rfl ?_
        refine g_nil ?_
        refine z_callP (ds := [r15, seats, roll, limits, leader]) (ih _ (by omega) r15 seats roll limits leader) rfl trivial fun r16 => ?_
        refine s_asg (nv1 := [some (.val rule), some (.val seats), some (.val roll), some (.val limits), some (.val leader), some (.val r16), none]) rfl ?_
        refine b_asg ?_
        refine x_call ?_
        refine g_cons rfl ?_
        refine x_op2 ?_
        refine o_var rfl ?_
        refine o_exp rfl ?_
        refine x_int ?_
        refine z_op2 rfl rfl fun r17 => ?_
        refine g_cons rfl ?_
        refine x_var rfl ?_
        refine g_cons rfl ?_
        refine x_var rfl ?_
        refine g_cons rfl ?_
        refine x_var rfl ?_
        refine g_cons rfl ?_
        refine x_var rfl ?_
        refine g_nil ?_
        refine z_callP (ds := [r17, seats, roll, limits, leader]) (ih _ (by omega) r17 seats roll limits leader) rfl trivial fun r18 => ?_
        refine s_asg (nv1 := [some (.val rule), some (.val seats), some (.val roll), some (.val limits), some (.val leader), some (.val r16), some (.val r18)]) rfl ?_
        refine b_ife ?_
        refine x_op2 ?_
        refine o_exp rfl ?_
        refine x_op2 ?_
        refine o_var rfl ?_
        refine o_exp rfl ?_
        refine x_int ?_
        refine z_op2 rfl rfl fun r19 => ?_
        refine o_exp rfl ?_
        refine x_str ?_
        refine z_op2 rfl rfl fun r20 => ?_
        refine z_ife ?_ ?_
        · refine b_ret ?_
          refine x_and ?_
          refine x_var rfl ?_
          refine z_and ?_ fun r21 => ?_
          · refine e_end ?_
            refine x_var rfl ?_
            exact qe_ok rfl rfl
          exact qf_ret rfl trivial
        · refine b_ret ?_
          refine x_or ?_
          refine x_var rfl ?_
          refine z_or ?_ fun r22 => ?_
          · refine e_end ?_
            refine x_var rfl ?_
            exact qe_ok rfl rfl
          exact qf_ret rfl trivial
      · refine b_ret ?_
        refine x_call ?_
        refine g_cons rfl ?_
        refine x_var rfl ?_
        refine g_cons rfl ?_
        refine x_call ?_
        refine g_cons rfl ?_
        refine x_var rfl ?_
        refine g_cons rfl ?_
        refine x_var rfl ?_
        refine g_cons rfl ?_
        refine x_op2 ?_
        refine o_var rfl ?_
        refine o_exp rfl ?_
        refine x_int ?_
        refine z_op2 rfl rfl fun r23 => ?_
        refine g_nil ?_
        refine z_callP (ds := [seats, roll, r23]) (q16 _ (by omega) seats roll r23) rfl trivial fun r24 => ?_
        refine g_cons rfl ?_
        refine x_var rfl ?_
        refine g_nil ?_
        refine z_callP (ds := [rule, r24, limits]) (q23 _ (by omega) rule r24 limits) rfl trivial fun r25 => ?_
        exact qf_ret rfl trivial
set_option maxHeartbeats 0 in
theorem q25 : ∀ (fuel n : Nat), 0 + fuel ≤ n → ∀ (rule : D), FqP (f_law_leaves_03 fuel rule) (calls dfs (shsOf tt) n 25 [.val rule]) (fun c => R.own c) [.val rule] := by
  intro fuel
  induction fuel with
  | zero => intro n hn rule; exact ⟨trivial⟩
  | succ fuel ih =>
    intro n hn rule
    obtain ⟨n, rfl⟩ : ∃ k, n = k + 1 := ⟨n - 1, by omega⟩
    rw [calls_succ (d := d25) rfl]
    refine fq_pure (ds := [rule]) rfl ?_
    change L _ _ (evB _ _ d25.body [some (.val rule)]) _
    rw [f_law_leaves_03]
    refine b_ife ?_
    refine x_or ?_
    refine x_op2 ?_
    refine o_exp rfl ?_
    refine x_op2 ?_
    refine o_var rfl ?_
    refine o_exp rfl ?_
    refine x_int ?_
    refine z_op2 rfl rfl fun r1 => ?_
    refine o_exp rfl ?_
    refine x_str ?_
    refine z_op2 rfl rfl fun r2 => ?_
    refine z_or ?_ fun r5 => ?_
    · refine e_end ?_
      refine x_op2 ?_
      refine o_exp rfl ?_
      refine x_op2 ?_
      refine o_var rfl ?_
      refine o_exp rfl ?_
      refine x_int ?_
      refine z_op2 rfl rfl fun r3 => ?_
      refine o_exp rfl ?_
      refine x_str ?_
      refine z_op2 rfl rfl fun r4 => ?_
      exact qe_ok rfl rfl
    refine z_ife ?_ ?_
    · refine b_ret ?_
      refine x_op2 ?_
      refine o_exp rfl ?_
      refine x_call ?_
      refine g_cons rfl ?_
      refine x_op2 ?_
      refine o_var rfl ?_
      refine o_exp rfl ?_
      refine x_int ?_
      refine z_op2 rfl rfl fun r6 => ?_
      refine g_nil ?_
      refine z_callP (ds := [r6]) (ih _ (by omega) r6) rfl trivial fun r7 => ?_
      refine o_exp rfl ?_
      refine x_call ?_
      refine g_cons rfl ?_
      refine x_op2 ?_
      refine o_var rfl ?_
      refine o_exp rfl ?_
      refine x_int ?_
      refine z_op2 rfl rfl fun r8 => ?_
      refine g_nil ?_
      refine z_callP (ds := [r8]) (ih _ (by omega) r8) rfl trivial fun r9 => ?_
      refine z_op2o rfl rfl fun r10 => ?_
      exact qf_ret rfl trivial
    · refine b_ret ?_
      refine x_lst ?_
      refine g_cons rfl ?_
      refine x_var rfl ?_
      refine g_nil ?_
      refine z_lst (ds := [rule]) rfl rfl ?_
      exact qf_ret rfl trivial
set_option maxHeartbeats 0 in
theorem q26 : ∀ (n : Nat), 32 ≤ n → ∀ (rule : D), FqP (f_law_chambers_of rule) (calls dfs (shsOf tt) n 26 [.val rule]) (fun c => R.own c) [.val rule] := by
  intro n hn rule
  obtain ⟨n, rfl⟩ : ∃ k, n = k + 1 := ⟨n - 1, by omega⟩
  rw [calls_succ (d := d26) rfl]
  refine fq_pure (ds := [rule]) rfl ?_
  change L _ _ (evB _ _ d26.body [some (.val rule), none]) _
  unfold f_law_chambers_of
  refine b_ret ?_
  refine x_op1 ?_
  refine o_exp rfl ?_
  refine x_comp ?_
  refine g_cons rfl ?_
  refine x_call ?_
  refine g_cons rfl ?_
  refine x_var rfl ?_
  refine g_nil ?_
  refine z_callP (ds := [rule]) (q25 30 _ (by omega) rule) rfl trivial fun r1 => ?_
  refine g_nil ?_
  refine z_comp [some (.val rule), none] rfl rfl rfl (fun d2 => ?_) fun ys8 => ?_
  · refine t_go ?_
    refine a_nm (nv1 := [some (.val rule), some (.val d2)]) rfl ?_
    refine c_one ?_
    refine x_op2 ?_
    refine o_exp rfl ?_
    refine x_op2 ?_
    refine o_var rfl ?_
    refine o_exp rfl ?_
    refine x_int ?_
    refine z_op2 rfl rfl fun r5 => ?_
    refine o_exp rfl ?_
    refine x_str ?_
    refine z_op2 rfl rfl fun r6 => ?_
    refine z_c1 ?_ (qt rfl)
    refine x_op2 ?_
    refine o_var rfl ?_
    refine o_exp rfl ?_
    refine x_int ?_
    refine z_op2 rfl rfl fun r7 => ?_
    exact qt rfl
  refine z_op1o rfl fun r9 => ?_
  exact qf_ret rfl trivial
set_option maxHeartbeats 0 in
theorem q27 : ∀ (n : Nat), 32 ≤ n → ∀ (rule : D), FqP (f_law_numbers_of rule) (calls dfs (shsOf tt) n 27 [.val rule]) (fun c => R.own c) [.val rule] := by
  intro n hn rule
  obtain ⟨n, rfl⟩ : ∃ k, n = k + 1 := ⟨n - 1, by omega⟩
  rw [calls_succ (d := d27) rfl]
  refine fq_pure (ds := [rule]) rfl ?_
  change L _ _ (evB _ _ d27.body [some (.val rule), none, none]) _
  unfold f_law_numbers_of
  refine b_asg ?_
  refine x_lst ?_
  refine g_nil ?_
  refine z_lst (ds := []) rfl rfl ?_
  refine s_asg (nv1 := [some (.val rule), some (.lv (.l true) []), none]) rfl ?_
  refine b_kill (nv1 := [some (.val rule), some (.lv (.l true) []), none]) rfl ?_
  refine b_for ?_
  refine g_cons rfl ?_
  refine x_call ?_
  refine g_cons rfl ?_
  refine x_var rfl ?_
  refine g_nil ?_
  refine z_callP (ds := [rule]) (q25 30 _ (by omega) rule) rfl trivial fun r1 => ?_
  refine g_nil ?_
  refine z_fold (g := fun s2 => [some (.val rule), some (.lv (.l true) s2), none]) rfl rfl (fun d4 s2 => ?_) fun s3 => ?_
  · refine a_nm (nv1 := [some (.val rule), some (.lv (.l true) s2), some (.val d4)]) rfl ?_
    refine b_ife ?_
    refine x_and ?_
    refine x_op2 ?_
    refine o_exp rfl ?_
    refine x_op2 ?_
    refine o_var rfl ?_
    refine o_exp rfl ?_
    refine x_int ?_
    refine z_op2 rfl rfl fun r6 => ?_
    refine o_exp rfl ?_
    refine x_lst ?_
    refine g_cons rfl ?_
    refine x_str ?_
    refine g_cons rfl ?_
    refine x_str ?_
    refine g_nil ?_
    refine z_lst (ds := [(D.str "yeas"), (D.str "quorum")]) rfl rfl ?_
    refine z_op2 rfl rfl fun r7 => ?_
    refine z_and ?_ fun r11 => ?_
    · refine e_end ?_
      refine x_op1 ?_
      refine o_exp rfl ?_
      refine x_op1 ?_
      refine o_exp rfl ?_
      refine x_op2 ?_
      refine o_var rfl ?_
      refine o_exp rfl ?_
      refine x_int ?_
      refine z_op2 rfl rfl fun r8 => ?_
      refine z_op1 rfl fun r9 => ?_
      refine z_op1 rfl fun r10 => ?_
      exact qe_ok rfl rfl
    refine z_ife ?_ ?_
    · refine b_expr ?_
      refine x_mth rfl ?_
      refine g_cons rfl ?_
      refine x_op2 ?_
      refine o_exp rfl ?_
      refine x_op2 ?_
      refine o_var rfl ?_
      refine o_exp rfl ?_
      refine x_int ?_
      refine z_op2 rfl rfl fun r12 => ?_
      refine o_exp rfl ?_
      refine x_int ?_
      refine z_op2 rfl rfl fun r13 => ?_
      refine g_nil ?_
      refine z_app (g := fun l14 => [some (.val rule), some (.lv (.l true) l14), some (.val d4)]) rfl (fun _ => rfl) fun l14 => ?_
      refine b_kill (nv1 := [some (.val rule), some (.lv (.l true) l14), none]) rfl ?_
      refine b_nil ?_
      exact qn_nx rfl
    · refine b_kill (nv1 := [some (.val rule), some (.lv (.l true) s2), none]) rfl ?_
      refine b_nil ?_
      exact qn_nx rfl
  refine b_ret ?_
  refine x_op1 ?_
  refine o_var rfl ?_
  refine z_op1o rfl fun r15 => ?_
  exact qf_ret rfl trivial
set_option maxHeartbeats 0 in
theorem q28 : ∀ (n : Nat), 2 ≤ n → ∀ (tape : List D) (limits : D) (numbers : D), FqL (f_law_other_limits tape limits numbers) (calls dfs (shsOf tt) n 28 [.lv (.l false) tape, .val limits, .val numbers]) (fun c => R.val c.1) (fun c => [.lv (.l false) c.2, .val limits, .val numbers]) := by
  intro n hn tape limits numbers
  obtain ⟨n, rfl⟩ : ∃ k, n = k + 1 := ⟨n - 1, by omega⟩
  rw [calls_succ (d := d28) rfl]
  refine fq_lent (X := fun _ => True) rfl ?_
  change L _ _ (evB _ _ d28.body [some (.lv (.l false) tape), some (.val limits), some (.val numbers), none, none, none, none, none]) _
  unfold f_law_other_limits
  refine b_asg ?_
  refine x_call ?_
  refine g_brw rfl ?_
  refine g_cons rfl ?_
  refine x_int ?_
  refine g_nil ?_
  refine z_callL (g := fun p1 => [some (.lv (.l false) p1.2), some (.val limits), some (.val numbers), none, none, none, none, none]) (q11 _ (by omega) tape (D.int 9)) rfl rfl rfl (fun _ => rfl) fun p1 => ?_
  refine s_asg (nv1 := [some (.lv (.l false) p1.2), some (.val limits), some (.val numbers), some (.val p1.1), none, none, none, none]) rfl ?_
  refine b_kill (nv1 := [some (.lv (.l false) p1.2), some (.val limits), some (.val numbers), some (.val p1.1), none, none, none, none]) rfl ?_
  refine b_for ?_
  refine g_cons rfl ?_
  refine x_var rfl ?_
  refine g_nil ?_
  refine z_fold (g := fun s2 => [some (.lv (.l false) p1.2), some (.val limits), some (.val numbers), some (.val s2), none, none, none, none]) rfl rfl (fun d4 s2 => ?_) fun s3 => ?_
  · refine a_nm (nv1 := [some (.lv (.l false) p1.2), some (.val limits), some (.val numbers), some (.val s2), some (.val d4), none, none, none]) rfl ?_
    refine b_ife ?_
    refine x_and ?_
    refine x_op2 ?_
    refine o_var rfl ?_
    refine o_exp rfl ?_
    refine x_op1 ?_
    refine o_var rfl ?_
    refine z_op1 rfl fun r6 => ?_
    refine z_op2 rfl rfl fun r7 => ?_
    refine z_and ?_ fun r10 => ?_
    · refine e_end ?_
      refine x_op2 ?_
      refine o_exp rfl ?_
      refine x_op2 ?_
      refine o_var rfl ?_
      refine o_var rfl ?_
      refine z_op2 rfl rfl fun r8 => ?_
      refine o_exp rfl ?_
      refine x_int ?_
      refine z_op2 rfl rfl fun r9 => ?_
      exact qe_ok rfl rfl
    refine z_ife ?_ ?_
    · refine b_asg ?_
      refine x_op2 ?_
      refine o_var rfl ?_
      refine o_exp rfl ?_
      refine x_op2 ?_
      refine o_var rfl ?_
      refine o_exp rfl ?_
      refine x_int ?_
      refine z_op2 rfl rfl fun r11 => ?_
      refine z_op2 rfl rfl fun r12 => ?_
      refine s_asg (nv1 := [some (.lv (.l false) p1.2), some (.val limits), some (.val numbers), some (.val r12), some (.val d4), none, none, none]) rfl ?_
      refine b_kill (nv1 := [some (.lv (.l false) p1.2), some (.val limits), some (.val numbers), some (.val r12), none, none, none, none]) rfl ?_
      refine b_nil ?_
      exact qn_nx rfl
    · refine b_kill (nv1 := [some (.lv (.l false) p1.2), some (.val limits), some (.val numbers), some (.val s2), none, none, none, none]) rfl ?_
      refine b_nil ?_
      exact qn_nx rfl
  refine b_asg ?_
  refine x_lst ?_
  refine g_nil ?_
  refine z_lst (ds := []) rfl rfl ?_
  refine s_asg (nv1 := [some (.lv (.l false) p1.2), some (.val limits), some (.val numbers), some (.val s3), none, some (.lv (.l true) []), none, none]) rfl ?_
  refine b_kill (nv1 := [some (.lv (.l false) p1.2), some (.val limits), some (.val numbers), some (.val s3), none, some (.lv (.l true) []), none, none]) rfl ?_
  refine b_for ?_
  refine g_cons rfl ?_
  refine x_var rfl ?_
  refine g_nil ?_
  refine z_fold (g := fun s13 => [some (.lv (.l false) s13.1), some (.val limits), some (.val numbers), some (.val s3), none, some (.lv (.l true) s13.2), none, none]) rfl rfl (fun d15 s13 => ?_) fun s14 => ?_
  · refine a_nm (nv1 := [some (.lv (.l false) s13.1), some (.val limits), some (.val numbers), some (.val s3), none, some (.lv (.l true) s13.2), some (.val d15), none]) rfl ?_
    refine b_asg ?_
    refine x_call ?_
    refine g_brw rfl ?_
    refine g_cons rfl ?_
    refine x_int ?_
    refine g_nil ?_
    refine z_callL (g := fun p17 => [some (.lv (.l false) p17.2), some (.val limits), some (.val numbers), some (.val s3), none, some (.lv (.l true) s13.2), some (.val d15), none]) (q11 _ (by omega) s13.1 (D.int 14)) rfl rfl rfl (fun _ => rfl) fun p17 => ?_
    refine s_asg (nv1 := [some (.lv (.l false) p17.2), some (.val limits), some (.val numbers), some (.val s3), none, some (.lv (.l true) s13.2), some (.val d15), some (.val p17.1)]) rfl ?_
    refine b_ife ?_
    refine x_op2 ?_
    refine o_var rfl ?_
    refine o_var rfl ?_
    refine z_op2 rfl rfl fun r18 => ?_
    refine z_ifj (g := fun s22 => [some (.lv (.l false) p17.2), some (.val limits), some (.val numbers), some (.val s3), none, some (.lv (.l true) s13.2), none, some (.val s22)]) ?_ ?_ fun s22 => ?_
    · refine b_asg ?_
      refine x_int ?_
      refine s_asg (nv1 := [some (.lv (.l false) p17.2), some (.val limits), some (.val numbers), some (.val s3), none, some (.lv (.l true) s13.2), some (.val d15), some (.val (D.int 0))]) rfl ?_
      refine b_ife ?_
      refine x_op2 ?_
      refine o_var rfl ?_
      refine o_exp rfl ?_
      refine x_op1 ?_
      refine o_var rfl ?_
      refine z_op1 rfl fun r19 => ?_
      refine z_op2 rfl rfl fun r20 => ?_
      refine z_ife ?_ ?_
      · refine b_asg ?_
        refine x_op2 ?_
        refine o_var rfl ?_
        refine o_var rfl ?_
        refine z_op2 rfl rfl fun r21 => ?_
        refine s_asg (nv1 := [some (.lv (.l false) p17.2), some (.val limits), some (.val numbers), some (.val s3), none, some (.lv (.l true) s13.2), some (.val d15), some (.val r21)]) rfl ?_
        refine b_kill (nv1 := [some (.lv (.l false) p17.2), some (.val limits), some (.val numbers), some (.val s3), none, some (.lv (.l true) s13.2), none, some (.val r21)]) rfl ?_
        refine b_nil ?_
        exact qj_ok rfl
      · refine b_kill (nv1 := [some (.lv (.l false) p17.2), some (.val limits), some (.val numbers), some (.val s3), none, some (.lv (.l true) s13.2), none, some (.val (D.int 0))]) rfl ?_
        refine b_nil ?_
        exact qj_ok rfl
    · refine b_kill (nv1 := [some (.lv (.l false) p17.2), some (.val limits), some (.val numbers), some (.val s3), none, some (.lv (.l true) s13.2), none, some (.val p17.1)]) rfl ?_
      refine b_nil ?_
      exact qj_ok rfl
    refine b_expr ?_
    refine x_mth rfl ?_
    refine g_cons rfl ?_
    refine x_var rfl ?_
    refine g_nil ?_
    refine z_app (g := fun l23 => [some (.lv (.l false) p17.2), some (.val limits), some (.val numbers), some (.val s3), none, some (.lv (.l true) l23), none, some (.val s22)]) rfl (fun _ => rfl) fun l23 => ?_
    refine b_kill (nv1 := [some (.lv (.l false) p17.2), some (.val limits), some (.val numbers), some (.val s3), none, some (.lv (.l true) l23), none, none]) rfl ?_
    refine b_nil ?_
    exact qn_nx rfl
  refine b_ret ?_
  refine x_op1 ?_
  refine o_var rfl ?_
  refine z_op1 rfl fun r24 => ?_
  exact qf_ret rfl rfl
set_option maxHeartbeats 0 in
theorem q29 : ∀ (n : Nat), 36 ≤ n → ∀ (script : D), FqP (f_law_03 script) (calls dfs (shsOf tt) n 29 [.val script]) (fun c => R.val c) [.val script] := by
  intro n hn script
  obtain ⟨n, rfl⟩ : ∃ k, n = k + 1 := ⟨n - 1, by omega⟩
  rw [calls_succ (d := d29) rfl]
  refine fq_pure (ds := [script]) rfl ?_
  change L _ _ (evB _ _ d29.body [some (.val script), none, none, none, none, none, none, none, none, none, none, none, none, none, none, none, none, none]) _
  unfold f_law_03
  refine b_asg ?_
  refine x_call ?_
  refine g_cons rfl ?_
  refine x_var rfl ?_
  refine g_nil ?_
  refine z_callP (ds := [script]) (q10 _ (by omega) script) rfl trivial fun r1 => ?_
  refine s_asg (nv1 := [some (.val script), some (.lv (.l true) r1), none, none, none, none, none, none, none, none, none, none, none, none, none, none, none, none]) rfl ?_
  refine b_asg ?_
  refine x_call ?_
  refine g_brw rfl ?_
  refine g_cons rfl ?_
  refine x_lst ?_
  refine g_cons rfl ?_
  refine x_int ?_
  refine g_cons rfl ?_
  refine x_int ?_
  refine g_cons rfl ?_
  refine x_int ?_
  refine g_cons rfl ?_
  refine x_int ?_
  refine g_cons rfl ?_
  refine x_int ?_
  refine g_nil ?_
  refine z_lst (ds := [(D.int 0), (D.int 0), (D.int 1), (D.int 2), (D.int 3)]) rfl rfl ?_
  refine g_cons rfl ?_
  refine x_lst ?_
  refine g_cons rfl ?_
  refine x_str ?_
  refine g_cons rfl ?_
  refine x_str ?_
  refine g_cons rfl ?_
  refine x_str ?_
  refine g_cons rfl ?_
  refine x_str ?_
  refine g_cons rfl ?_
  refine x_str ?_
  refine g_cons rfl ?_
  refine x_str ?_
  refine g_nil ?_
  refine z_lst (ds := [(D.str "yeas"), (D.str "quorum"), (D.str "majority"), (D.str "fraction"), (D.str "quorum"), (D.str "premier")]) rfl rfl ?_
  refine g_cons rfl ?_
  refine x_int ?_
  refine g_nil ?_
  refine z_callL (g := fun p2 => [some (.val script), some (.lv (.l true) p2.2), none, none, none, none, none, none, none, none, none, none, none, none, none, none, none, none]) (q21 30 _ (by omega) r1 (D.lst [(D.int 0), (D.int 0), (D.int 1), (D.int 2), (D.int 3)]) (D.lst [(D.str "yeas"), (D.str "quorum"), (D.str "majority"), (D.str "fraction"), (D.str "quorum"), (D.str "premier")]) (D.int 4)) rfl rfl rfl (fun _ => rfl) fun p2 => ?_
  refine s_asg (nv1 := [some (.val script), some (.lv (.l true) p2.2), some (.val p2.1), none, none, none, none, none, none, none, none, none, none, none, none, none, none, none]) rfl ?_
  refine b_asg ?_
  refine x_call ?_
  refine g_brw rfl ?_
  refine g_cons rfl ?_
  refine x_int ?_
  refine g_nil ?_
  refine z_callL (g := fun p3 => [some (.val script), some (.lv (.l true) p3.2), some (.val p2.1), none, none, none, none, none, none, none, none, none, none, none, none, none, none, none]) (q14 _ (by omega) p2.2 (D.int 4)) rfl rfl rfl (fun _ => rfl) fun p3 => ?_
  refine s_asg (nv1 := [some (.val script), some (.lv (.l true) p3.2), some (.val p2.1), some (.val p3.1), none, none, none, none, none, none, none, none, none, none, none, none, none, none]) rfl ?_
  refine b_asg ?_
  refine x_call ?_
  refine g_brw rfl ?_
  refine g_cons rfl ?_
  refine x_call ?_
  refine g_brw rfl ?_
  refine g_cons rfl ?_
  refine x_int ?_
  refine g_nil ?_
  refine z_callL (g := fun p4 => [some (.val script), some (.lv (.l true) p4.2), some (.val p2.1), some (.val p3.1), none, none, none, none, none, none, none, none, none, none, none, none, none, none]) (q11 _ (by omega) p3.2 (D.int 13)) rfl rfl rfl (fun _ => rfl) fun p4 => ?_
  refine g_nil ?_
  refine z_callL (g := fun p5 => [some (.val script), some (.lv (.l true) p5.2), some (.val p2.1), some (.val p3.1), none, none, none, none, none, none, none, none, none, none, none, none, none, none]) (q15 _ (by omega) p4.2 p4.1) rfl rfl rfl (fun _ => rfl) fun p5 => ?_
  refine s_asg (nv1 := [some (.val script), some (.lv (.l true) p5.2), some (.val p2.1), some (.val p3.1), some (.val p5.1), none, none, none, none, none, none, none, none, none, none, none, none, none]) rfl ?_
  refine b_asg ?_
  refine x_call ?_
  refine g_brw rfl ?_
  refine g_nil ?_
  refine z_callL (g := fun p6 => [some (.val script), some (.lv (.l true) p6.2), some (.val p2.1), some (.val p3.1), some (.val p5.1), none, none, none, none, none, none, none, none, none, none, none, none, none]) (q17 _ (by omega) p5.2) rfl rfl rfl (fun _ => rfl) fun p6 => ?_
  refine s_asg (nv1 := [some (.val script), some (.lv (.l true) p6.2), some (.val p2.1), some (.val p3.1), some (.val p5.1), some (.val p6.1), none, none, none, none, none, none, none, none, none, none, none, none]) rfl ?_
  refine b_asg ?_
  refine x_call ?_
  refine g_brw rfl ?_
  refine g_nil ?_
  refine z_callL (g := fun p7 => [some (.val script), some (.lv (.l true) p7.2), some (.val p2.1), some (.val p3.1), some (.val p5.1), some (.val p6.1), none, none, none, none, none, none, none, none, none, none, none, none]) (q18 _ (by omega) p6.2) rfl rfl rfl (fun _ => rfl) fun p7 => ?_
  refine s_asg (nv1 := [some (.val script), some (.lv (.l true) p7.2), some (.val p2.1), some (.val p3.1), some (.val p5.1), some (.val p6.1), some (.val p7.1), none, none, none, none, none, none, none, none, none, none, none]) rfl ?_
  refine b_asg ?_
  refine x_call ?_
  refine g_cons rfl ?_
  refine x_var rfl ?_
  refine g_nil ?_
  refine z_callP (ds := [p2.1]) (q26 _ (by omega) p2.1) rfl trivial fun r8 => ?_
  refine s_asg (nv1 := [some (.val script), some (.lv (.l true) p7.2), some (.val p2.1), some (.val p3.1), some (.val p5.1), some (.val p6.1), some (.val p7.1), some (.lv (.l true) r8), none, none, none, none, none, none, none, none, none, none]) rfl ?_
  refine b_asg ?_
  refine x_call ?_
  refine g_cons rfl ?_
  refine x_var rfl ?_
  refine g_nil ?_
  refine z_callP (ds := [p2.1]) (q27 _ (by omega) p2.1) rfl trivial fun r9 => ?_
  refine s_asg (nv1 := [some (.val script), some (.lv (.l true) p7.2), some (.val p2.1), some (.val p3.1), some (.val p5.1), some (.val p6.1), some (.val p7.1), some (.lv (.l true) r8), some (.lv (.l true) r9), none, none, none, none, none, none, none, none, none]) rfl ?_
  refine b_asg ?_
  refine x_call ?_
  refine g_brw rfl ?_
  refine g_cons rfl ?_
  refine x_lst ?_
  refine g_cons rfl ?_
  refine x_int ?_
  refine g_cons rfl ?_
  refine x_int ?_
  refine g_cons rfl ?_
  refine x_int ?_
  refine g_cons rfl ?_
  refine x_int ?_
  refine g_nil ?_
  refine z_lst (ds := [(D.int 0), (D.int 1), (D.int 2), (D.int 3)]) rfl rfl ?_
  refine g_cons rfl ?_
  refine x_lst ?_
  refine g_cons rfl ?_
  refine x_str ?_
  refine g_cons rfl ?_
  refine x_str ?_
  refine g_cons rfl ?_
  refine x_str ?_
  refine g_cons rfl ?_
  refine x_str ?_
  refine g_cons rfl ?_
  refine x_str ?_
  refine g_cons rfl ?_
  refine x_str ?_
  refine g_nil ?_
  refine z_lst (ds := [(D.str "yeas"), (D.str "quorum"), (D.str "majority"), (D.str "fraction"), (D.str "quorum"), (D.str "premier")]) rfl rfl ?_
  refine g_cons rfl ?_
  refine x_int ?_
  refine g_nil ?_
  refine z_callL (g := fun p10 => [some (.val script), some (.lv (.l true) p10.2), some (.val p2.1), some (.val p3.1), some (.val p5.1), some (.val p6.1), some (.val p7.1), some (.lv (.l true) r8), some (.lv (.l true) r9), none, none, none, none, none, none, none, none, none]) (q21 30 _ (by omega) p7.2 (D.lst [(D.int 0), (D.int 1), (D.int 2), (D.int 3)]) (D.lst [(D.str "yeas"), (D.str "quorum"), (D.str "majority"), (D.str "fraction"), (D.str "quorum"), (D.str "premier")]) (D.int 4)) rfl rfl rfl (fun _ => rfl) fun p10 => ?_
  refine s_asg (nv1 := [some (.val script), some (.lv (.l true) p10.2), some (.val p2.1), some (.val p3.1), some (.val p5.1), some (.val p6.1), some (.val p7.1), some (.lv (.l true) r8), some (.lv (.l true) r9), some (.val p10.1), none, none, none, none, none, none, none, none]) rfl ?_
  refine b_kill (nv1 := [none, some (.lv (.l true) p10.2), some (.val p2.1), some (.val p3.1), some (.val p5.1), some (.val p6.1), some (.val p7.1), some (.lv (.l true) r8), some (.lv (.l true) r9), some (.val p10.1), none, none, none, none, none, none, none, none]) rfl ?_
  refine b_for ?_
  refine g_cons rfl ?_
  refine x_lst ?_
  refine g_cons rfl ?_
  refine x_var rfl ?_
  refine g_cons rfl ?_
  refine x_var rfl ?_
  refine g_nil ?_
  refine z_lst (ds := [p10.1, p2.1]) rfl rfl ?_
  refine g_nil ?_
  refine z_for (g := fun s11 => [none, some (.lv (.l true) p10.2), some (.val p2.1), some (.val p3.1), some (.val p5.1), some (.val p6.1), some (.val p7.1), some (.lv (.l true) r8), some (.lv (.l true) r9), some (.val p10.1), none, none, none, none, none, none, none, none]) (h := fun c => R.val c) (O := fun _ _ => True) rfl rfl (fun d13 s11 => ?_) (fun s12 => ?_) fun c nv o => ?_
  · refine a_nm (nv1 := [none, some (.lv (.l true) p10.2), some (.val p2.1), some (.val p3.1), some (.val p5.1), some (.val p6.1), some (.val p7.1), some (.lv (.l true) r8), some (.lv (.l true) r9), some (.val p10.1), some (.val d13), none, none, none, none, none, none, none]) rfl ?_
    refine b_ife ?_
    refine x_not ?_
    refine x_op1 ?_
    refine o_exp rfl ?_
    refine x_call ?_
    refine g_cons rfl ?_
    refine x_call ?_
    refine g_cons rfl ?_
    refine x_var rfl ?_
    refine g_nil ?_
    refine z_callP (ds := [d13]) (q7 _ (by omega) d13) rfl trivial fun r15 => ?_
    refine g_cons rfl ?_
    refine x_tup ?_
    refine g_cons rfl ?_
    refine x_op1 ?_
    refine o_exp rfl ?_
    refine x_call ?_
    refine g_cons rfl ?_
    refine x_var rfl ?_
    refine g_nil ?_
    refine z_callP (ds := [d13]) (q26 _ (by omega) d13) rfl trivial fun r16 => ?_
    refine z_op1 rfl fun r17 => ?_
    refine g_cons rfl ?_
    refine x_op1 ?_
    refine o_exp rfl ?_
    refine x_call ?_
    refine g_cons rfl ?_
    refine x_var rfl ?_
    refine g_nil ?_
    refine z_callP (ds := [d13]) (q27 _ (by omega) d13) rfl trivial fun r18 => ?_
    refine z_op1 rfl fun r19 => ?_
    refine g_nil ?_
    refine z_tup (ds := [r17, r19]) rfl rfl ?_
    refine g_nil ?_
    refine z_callP (ds := [r15, (D.tup [r17, r19])]) (q12 30 _ (by omega) r15 (D.tup [r17, r19])) rfl trivial fun r20 => ?_
    refine z_op1 rfl fun r21 => ?_
    refine z_not fun r22 => ?_
    refine z_ife ?_ ?_
    · refine b_ret ?_
      refine x_bl ?_
      exact ql_ret rfl trivial
    · refine b_kill (nv1 := [none, some (.lv (.l true) p10.2), some (.val p2.1), some (.val p3.1), some (.val p5.1), some (.val p6.1), some (.val p7.1), some (.lv (.l true) r8), some (.lv (.l true) r9), some (.val p10.1), none, none, none, none, none, none, none, none]) rfl ?_
      refine b_nil ?_
      exact ql_nx rfl
  · refine b_asg ?_
    refine x_lst ?_
    refine g_nil ?_
    refine z_lst (ds := []) rfl rfl ?_
    refine s_asg (nv1 := [none, some (.lv (.l true) p10.2), some (.val p2.1), some (.val p3.1), some (.val p5.1), some (.val p6.1), some (.val p7.1), some (.lv (.l true) r8), some (.lv (.l true) r9), some (.val p10.1), none, some (.lv (.l true) []), none, none, none, none, none, none]) rfl ?_
    refine b_asg ?_
    refine x_lst ?_
    refine g_nil ?_
    refine z_lst (ds := []) rfl rfl ?_
    refine s_asg (nv1 := [none, some (.lv (.l true) p10.2), some (.val p2.1), some (.val p3.1), some (.val p5.1), some (.val p6.1), some (.val p7.1), some (.lv (.l true) r8), some (.lv (.l true) r9), some (.val p10.1), none, some (.lv (.l true) []), some (.lv (.l true) []), none, none, none, none, none]) rfl ?_
    refine b_kill (nv1 := [none, some (.lv (.l true) p10.2), some (.val p2.1), some (.val p3.1), some (.val p5.1), some (.val p6.1), some (.val p7.1), some (.lv (.l true) r8), some (.lv (.l true) r9), none, none, some (.lv (.l true) []), some (.lv (.l true) []), none, none, none, none, none]) rfl ?_
    refine b_for ?_
    refine g_cons rfl ?_
    refine x_op1 ?_
    refine o_var rfl ?_
    refine z_op1 rfl fun r23 => ?_
    refine g_nil ?_
    refine z_fold (g := fun s24 => [none, some (.lv (.l true) s24.1), some (.val p2.1), some (.val p3.1), some (.val p5.1), some (.val p6.1), some (.val p7.1), some (.lv (.l true) r8), some (.lv (.l true) r9), none, none, some (.lv (.l true) s24.2.1), some (.lv (.l true) s24.2.2), none, none, none, none, none]) rfl rfl (fun d26 s24 => ?_) fun s25 => ?_
    · refine a_nm (nv1 := [none, some (.lv (.l true) s24.1), some (.val p2.1), some (.val p3.1), some (.val p5.1), some (.val p6.1), some (.val p7.1), some (.lv (.l true) r8), some (.lv (.l true) r9), none, none, some (.lv (.l true) s24.2.1), some (.lv (.l true) s24.2.2), some (.val d26), none, none, none, none]) rfl ?_
      refine b_expr ?_
      refine x_mth rfl ?_
      refine g_cons rfl ?_
      refine x_call ?_
      refine g_brw rfl ?_
      refine g_cons rfl ?_
      refine x_int ?_
      refine g_nil ?_
      refine z_callL (g := fun p28 => [none, some (.lv (.l true) p28.2), some (.val p2.1), some (.val p3.1), some (.val p5.1), some (.val p6.1), some (.val p7.1), some (.lv (.l true) r8), some (.lv (.l true) r9), none, none, some (.lv (.l true) s24.2.1), some (.lv (.l true) s24.2.2), some (.val d26), none, none, none, none]) (q13 _ (by omega) s24.1 (D.int 12)) rfl rfl rfl (fun _ => rfl) fun p28 => ?_
      refine g_nil ?_
      refine z_app (g := fun l29 => [none, some (.lv (.l true) p28.2), some (.val p2.1), some (.val p3.1), some (.val p5.1), some (.val p6.1), some (.val p7.1), some (.lv (.l true) r8), some (.lv (.l true) r9), none, none, some (.lv (.l true) s24.2.1), some (.lv (.l true) l29), some (.val d26), none, none, none, none]) rfl (fun _ => rfl) fun l29 => ?_
      refine b_ife ?_
      refine x_op2 ?_
      refine o_var rfl ?_
      refine o_var rfl ?_
      refine z_op2 rfl rfl fun r30 => ?_
      refine z_ife ?_ ?_
      · refine b_sti ?_
        refine x_op2 ?_
        refine o_var rfl ?_
        refine o_var rfl ?_
        refine z_op2 rfl rfl fun r31 => ?_
        refine s_sti rfl ?_
        refine x_var rfl ?_
        refine z_st (g := fun l32 => [none, some (.lv (.l true) p28.2), some (.val p2.1), some (.val p3.1), some (.val p5.1), some (.val p6.1), some (.val p7.1), some (.lv (.l true) r8), some (.lv (.l true) r9), none, none, some (.lv (.l true) s24.2.1), some (.lv (.l true) l32), some (.val d26), none, none, none, none]) rfl (fun _ => rfl) fun l32 => ?_
        refine b_asg ?_
        refine x_op2 ?_
        refine o_var rfl ?_
        refine o_exp rfl ?_
        refine x_op1 ?_
        refine o_exp rfl ?_
        refine x_op2 ?_
        refine o_var rfl ?_
        refine o_var rfl ?_
        refine z_op2 rfl rfl fun r33 => ?_
        refine z_op1o rfl fun r34 => ?_
        refine z_op2o rfl rfl fun r35 => ?_
        refine s_asg (nv1 := [none, some (.lv (.l true) p28.2), some (.val p2.1), some (.val p3.1), some (.val p5.1), some (.val p6.1), some (.val p7.1), some (.lv (.l true) r8), some (.lv (.l true) r9), none, none, some (.lv (.l true) r35), some (.lv (.l true) l32), some (.val d26), none, none, none, none]) rfl ?_
        refine b_kill (nv1 := [none, some (.lv (.l true) p28.2), some (.val p2.1), some (.val p3.1), some (.val p5.1), some (.val p6.1), some (.val p7.1), some (.lv (.l true) r8), some (.lv (.l true) r9), none, none, some (.lv (.l true) r35), some (.lv (.l true) l32), none, none, none, none, none]) rfl ?_
        refine b_nil ?_
        exact qn_nx rfl
      · refine b_kill (nv1 := [none, some (.lv (.l true) p28.2), some (.val p2.1), some (.val p3.1), some (.val p5.1), some (.val p6.1), some (.val p7.1), some (.lv (.l true) r8), some (.lv (.l true) r9), none, none, some (.lv (.l true) s24.2.1), some (.lv (.l true) l29), none, none, none, none, none]) rfl ?_
        refine b_nil ?_
        exact qn_nx rfl
    refine b_asg ?_
    refine x_call ?_
    refine g_brw rfl ?_
    refine g_nil ?_
    refine z_callL (g := fun p36 => [none, some (.lv (.l true) p36.2), some (.val p2.1), some (.val p3.1), some (.val p5.1), some (.val p6.1), some (.val p7.1), some (.lv (.l true) r8), some (.lv (.l true) r9), none, none, some (.lv (.l true) s25.2.1), some (.lv (.l true) s25.2.2), none, none, none, none, none]) (q18 _ (by omega) s25.1) rfl rfl rfl (fun _ => rfl) fun p36 => ?_
    refine s_asg (nv1 := [none, some (.lv (.l true) p36.2), some (.val p2.1), some (.val p3.1), some (.val p5.1), some (.val p6.1), some (.val p7.1), some (.lv (.l true) r8), some (.lv (.l true) r9), some (.val p36.1), none, some (.lv (.l true) s25.2.1), some (.lv (.l true) s25.2.2), none, none, none, none, none]) rfl ?_
    refine b_ife ?_
    refine x_op2 ?_
    refine o_exp rfl ?_
    refine x_tup ?_
    refine g_cons rfl ?_
    refine x_str ?_
    refine g_nil ?_
    refine z_tup (ds := [(D.str "premier")]) rfl rfl ?_
    refine o_exp rfl ?_
    refine x_call ?_
    refine g_cons rfl ?_
    refine x_var rfl ?_
    refine g_nil ?_
    refine z_callP (ds := [p2.1]) (q25 30 _ (by omega) p2.1) rfl trivial fun r37 => ?_
    refine z_op2 rfl rfl fun r38 => ?_
    refine z_ifj (g := fun s40 => [none, some (.lv (.l true) p36.2), some (.val p2.1), some (.val p3.1), some (.val p5.1), some (.val p6.1), some (.val p7.1), none, some (.lv (.l true) r9), some (.val s40.1), none, some (.lv (.l true) s40.2), some (.lv (.l true) s25.2.2), none, none, none, none, none]) ?_ ?_ fun s40 => ?_
    · refine b_asg ?_
      refine x_var rfl ?_
      refine s_asg (nv1 := [none, some (.lv (.l true) p36.2), some (.val p2.1), some (.val p3.1), some (.val p5.1), some (.val p6.1), some (.val p7.1), some (.lv (.l true) r8), some (.lv (.l true) r9), some (.val p7.1), none, some (.lv (.l true) s25.2.1), some (.lv (.l true) s25.2.2), none, none, none, none, none]) rfl ?_
      refine b_expr ?_
      refine x_mth rfl ?_
      refine g_cons rfl ?_
      refine x_var rfl ?_
      refine g_nil ?_
      refine z_app (g := fun l39 => [none, some (.lv (.l true) p36.2), some (.val p2.1), some (.val p3.1), some (.val p5.1), some (.val p6.1), some (.val p7.1), some (.lv (.l true) r8), some (.lv (.l true) r9), some (.val p7.1), none, some (.lv (.l true) l39), some (.lv (.l true) s25.2.2), none, none, none, none, none]) rfl (fun _ => rfl) fun l39 => ?_
      refine b_kill (nv1 := [none, some (.lv (.l true) p36.2), some (.val p2.1), some (.val p3.1), some (.val p5.1), some (.val p6.1), some (.val p7.1), none, some (.lv (.l true) r9), some (.val p7.1), none, some (.lv (.l true) l39), some (.lv (.l true) s25.2.2), none, none, none, none, none]) rfl ?_
      refine b_nil ?_
      exact qj_ok rfl
    · refine b_kill (nv1 := [none, some (.lv (.l true) p36.2), some (.val p2.1), some (.val p3.1), some (.val p5.1), some (.val p6.1), some (.val p7.1), none, some (.lv (.l true) r9), some (.val p36.1), none, some (.lv (.l true) s25.2.1), some (.lv (.l true) s25.2.2), none, none, none, none, none]) rfl ?_
      refine b_nil ?_
      exact qj_ok rfl
    refine b_asg ?_
    refine x_op1 ?_
    refine o_exp rfl ?_
    refine x_call ?_
    refine g_brw rfl ?_
    refine g_cons rfl ?_
    refine x_int ?_
    refine g_nil ?_
    refine z_callL (g := fun p41 => [none, some (.lv (.l true) p41.2), some (.val p2.1), some (.val p3.1), some (.val p5.1), some (.val p6.1), some (.val p7.1), none, some (.lv (.l true) r9), some (.val s40.1), none, some (.lv (.l true) s40.2), some (.lv (.l true) s25.2.2), none, none, none, none, none]) (q15 _ (by omega) p36.2 (D.int 12)) rfl rfl rfl (fun _ => rfl) fun p41 => ?_
    refine z_op1o rfl fun r42 => ?_
    refine s_asg (nv1 := [none, some (.lv (.l true) p41.2), some (.val p2.1), some (.val p3.1), some (.val p5.1), some (.val p6.1), some (.val p7.1), none, some (.lv (.l true) r9), some (.val s40.1), none, some (.lv (.l true) s40.2), some (.lv (.l true) s25.2.2), none, some (.lv (.l true) r42), none, none, none]) rfl ?_
    refine b_kill (nv1 := [none, some (.lv (.l true) p41.2), some (.val p2.1), some (.val p3.1), some (.val p5.1), some (.val p6.1), some (.val p7.1), none, some (.lv (.l true) r9), some (.val s40.1), none, some (.lv (.l true) s40.2), some (.lv (.l true) s25.2.2), none, some (.lv (.l true) r42), none, none, none]) rfl ?_
    refine b_for ?_
    refine g_cons rfl ?_
    refine x_int ?_
    refine g_nil ?_
    refine z_fold (g := fun s43 => [none, some (.lv (.l true) p41.2), some (.val p2.1), some (.val p3.1), some (.val p5.1), some (.val p6.1), some (.val p7.1), none, some (.lv (.l true) r9), some (.val s40.1), none, some (.lv (.l true) s40.2), some (.lv (.l true) s25.2.2), none, some (.lv (.l true) s43), none, none, none]) rfl rfl (fun d45 s43 => ?_) fun s44 => ?_
    · refine a_nm (nv1 := [none, some (.lv (.l true) p41.2), some (.val p2.1), some (.val p3.1), some (.val p5.1), some (.val p6.1), some (.val p7.1), none, some (.lv (.l true) r9), some (.val s40.1), none, some (.lv (.l true) s40.2), some (.lv (.l true) s25.2.2), none, some (.lv (.l true) s43), some (.val d45), none, none]) rfl ?_
      refine b_ife ?_
      refine x_op2 ?_
      refine o_var rfl ?_
      refine o_var rfl ?_
      refine z_op2 rfl rfl fun r47 => ?_
      refine z_ife ?_ ?_
      · refine b_sti ?_
        refine x_op2 ?_
        refine o_exp rfl ?_
        refine x_op2 ?_
        refine o_var rfl ?_
        refine o_exp rfl ?_
        refine x_op2 ?_
        refine o_exp rfl ?_
        refine x_str ?_
        refine o_exp rfl ?_
        refine x_int ?_
        refine z_op2 rfl rfl fun r48 => ?_
        refine z_op2 rfl rfl fun r49 => ?_
        refine o_var rfl ?_
        refine z_op2 rfl rfl fun r50 => ?_
        refine s_sti rfl ?_
        refine x_var rfl ?_
        refine z_st (g := fun l51 => [none, some (.lv (.l true) p41.2), some (.val p2.1), some (.val p3.1), some (.val p5.1), some (.val p6.1), some (.val p7.1), none, some (.lv (.l true) r9), some (.val s40.1), none, some (.lv (.l true) s40.2), some (.lv (.l true) s25.2.2), none, some (.lv (.l true) l51), some (.val d45), none, none]) rfl (fun _ => rfl) fun l51 => ?_
        refine b_kill (nv1 := [none, some (.lv (.l true) p41.2), some (.val p2.1), some (.val p3.1), some (.val p5.1), some (.val p6.1), some (.val p7.1), none, some (.lv (.l true) r9), some (.val s40.1), none, some (.lv (.l true) s40.2), some (.lv (.l true) s25.2.2), none, some (.lv (.l true) l51), none, none, none]) rfl ?_
        refine b_nil ?_
        exact qn_nx rfl
      · refine b_kill (nv1 := [none, some (.lv (.l true) p41.2), some (.val p2.1), some (.val p3.1), some (.val p5.1), some (.val p6.1), some (.val p7.1), none, some (.lv (.l true) r9), some (.val s40.1), none, some (.lv (.l true) s40.2), some (.lv (.l true) s25.2.2), none, some (.lv (.l true) s43), none, none, none]) rfl ?_
        refine b_nil ?_
        exact qn_nx rfl
    refine b_asg ?_
    refine x_call ?_
    refine g_cons rfl ?_
    refine x_var rfl ?_
    refine g_cons rfl ?_
    refine x_var rfl ?_
    refine g_cons rfl ?_
    refine x_var rfl ?_
    refine g_cons rfl ?_
    refine x_var rfl ?_
    refine g_cons rfl ?_
    refine x_var rfl ?_
    refine g_nil ?_
    refine z_callP (ds := [p2.1, p3.1, p5.1, p6.1, p7.1]) (q24 30 _ (by omega) p2.1 p3.1 p5.1 p6.1 p7.1) rfl trivial fun r52 => ?_
    refine s_asg (nv1 := [none, some (.lv (.l true) p41.2), some (.val p2.1), some (.val p3.1), some (.val p5.1), some (.val p6.1), some (.val p7.1), none, some (.lv (.l true) r9), some (.val s40.1), none, some (.lv (.l true) s40.2), some (.lv (.l true) s25.2.2), none, some (.lv (.l true) s44), none, some (.val r52), none]) rfl ?_
    refine b_ife ?_
    refine x_not ?_
    refine x_op1 ?_
    refine o_exp rfl ?_
    refine x_call ?_
    refine g_cons rfl ?_
    refine x_call ?_
    refine g_cons rfl ?_
    refine x_var rfl ?_
    refine g_cons rfl ?_
    refine x_var rfl ?_
    refine g_cons rfl ?_
    refine x_var rfl ?_
    refine g_cons rfl ?_
    refine x_var rfl ?_
    refine g_cons rfl ?_
    refine x_var rfl ?_
    refine g_nil ?_
    refine z_callP (ds := [p2.1, p3.1, p5.1, p6.1, p7.1]) (q6 _ (by omega) p2.1 p3.1 p5.1 p6.1 p7.1) rfl trivial fun r53 => ?_
    refine g_cons rfl ?_
    refine x_var rfl ?_
    refine g_nil ?_
    refine z_callP (ds := [r53, r52]) (q12 30 _ (by omega) r53 r52) rfl trivial fun r54 => ?_
    refine z_op1 rfl fun r55 => ?_
    refine z_not fun r56 => ?_
    refine z_ife ?_ ?_
    · refine b_ret ?_
      refine x_bl ?_
      exact qf_ret rfl trivial
    · refine b_asg ?_
      refine x_call ?_
      refine g_brw rfl ?_
      refine g_cons rfl ?_
      refine x_var rfl ?_
      refine g_cons rfl ?_
      refine x_varF (nv1 := [none, some (.lv (.l true) p41.2), some (.val p2.1), some (.val p3.1), some (.val p5.1), some (.val p6.1), some (.val p7.1), none, some (.val (D.lst r9)), some (.val s40.1), none, some (.lv (.l true) s40.2), some (.lv (.l true) s25.2.2), none, some (.lv (.l true) s44), none, some (.val r52), none]) rfl rfl ?_
      refine g_nil ?_
      refine z_callL (g := fun p57 => [none, some (.lv (.l true) p57.2), some (.val p2.1), some (.val p3.1), some (.val p5.1), some (.val p6.1), some (.val p7.1), none, some (.val (D.lst r9)), some (.val s40.1), none, some (.lv (.l true) s40.2), some (.lv (.l true) s25.2.2), none, some (.lv (.l true) s44), none, some (.val r52), none]) (q28 _ (by omega) p41.2 p6.1 (D.lst r9)) rfl rfl rfl (fun _ => rfl) fun p57 => ?_
      refine s_asg (nv1 := [none, some (.lv (.l true) p57.2), some (.val p2.1), some (.val p3.1), some (.val p5.1), some (.val p6.1), some (.val p7.1), none, some (.val (D.lst r9)), some (.val s40.1), none, some (.lv (.l true) s40.2), some (.lv (.l true) s25.2.2), none, some (.lv (.l true) s44), none, some (.val r52), some (.val p57.1)]) rfl ?_
      refine b_ret ?_
      refine x_call ?_
      refine g_cons rfl ?_
      refine x_call ?_
      refine g_cons rfl ?_
      refine x_var rfl ?_
      refine g_cons rfl ?_
      refine x_op1 ?_
      refine o_var rfl ?_
      refine z_op1 rfl fun r58 => ?_
      refine g_cons rfl ?_
      refine x_mop ?_
      refine o_exp rfl ?_
      refine x_str ?_
      refine z_rec rfl ?_
      refine o_var rfl ?_
      refine z_mop rfl rfl fun r59 => ?_
      refine g_cons rfl ?_
      refine x_var rfl ?_
      refine g_cons rfl ?_
      refine x_var rfl ?_
      refine g_nil ?_
      refine z_callP (ds := [p2.1, r58, r59, p57.1, s40.1]) (q6 _ (by omega) p2.1 r58 r59 p57.1 s40.1) rfl trivial fun r60 => ?_
      refine g_cons rfl ?_
      refine x_var rfl ?_
      refine g_nil ?_
      refine z_callP (ds := [r60, r52]) (q12 30 _ (by omega) r60 r52) rfl trivial fun r61 => ?_
      exact qf_ret rfl trivial
  exact qf_ret rfl o
theorem pure_of (h : ∀ ns : List Int, ns.length ≤ 63 → f_law_03 (.scr ns) = .ok (.bl true)) : ∀ ns : List Int, ns.length ≤ 63 → ∃ outs, calls dfs (shsOf tt) 100 29 [.val (.scr ns)] = .ok (.val (.bl true)) outs := by
  intro ns hl
  have e := q29 100 (by decide) (.scr ns)
  rw [h ns hl] at e
  exact ⟨_, e.un⟩
end K03
namespace K03
open PySem L2 G
theorem num_rng {n : Nat} (h : n ≤ 1000) : itD .rng [.int n] = .ok ((List.range n).map fun k : Nat => D.int k) := by
  have hz := SZ2
  exact it_rngN (by omega)
theorem other_limits_ok {t : List D} (ht : Tp t) {ps ns : List Nat} (hp : ps.length ≤ 8) : Zw (f_law_other_limits t (tr ps) (.lst (nl ns))) fun r => (∃ qs : List Nat, r.1 = tr qs ∧ ∀ k ∈ ns, qs.getD k 0 = ps.getD k 0) ∧ Tp r.2 := by
  have hz := SZ2
  unfold f_law_other_limits
  refine zd ht (by decide) (by decide) fun m t hm ht => ?_
  dsimp only
  rw [it_seqL, bind_ok']
  refine zc (P := fun d : D => ∃ m : Nat, d = .int m ∧ m ≤ 9 ∧ ∀ k ∈ ns, k < ps.length → 0 < ps.getD k 0 → k < m) ?_ ?_
  · refine zw_fold (fun r d => ∃ (ms : List Nat) (m : Nat), r = nl ms ∧ d = .int m ∧ m ≤ 9 ∧ (∀ k ∈ ns, k ∈ ms ∨ (k < ps.length → 0 < ps.getD k 0 → k < m))) ⟨ns, m, rfl, rfl, by omega, fun k hk => .inl hk⟩ ?_ ?_
    · rintro d ds s ⟨ms, m, e, rfl, hm9, hI⟩
      cases ms with
      | nil => cases e
      | cons k ms =>
        obtain ⟨rfl, rfl⟩ := List.cons.inj e
        rw [len_tr, bind_ok', lt_i, bind_ok', and_b]
        by_cases q : k < ps.length
        · rw [if_pos (by simp; omega), ix_tr q, bind_ok', gt_i, bind_ok', bind_ok', ite_b]
          by_cases q2 : 0 < ga ps k
          · rw [if_pos (by simp; omega), add_i, bind_ok', max_i, bind_ok']
            refine zw_ok.mpr ⟨ms, max m (k + 1), rfl, ?_, by omega, fun j hj => ?_⟩
            · congr 1
              omega
            · rcases hI j hj with h | h
              · rcases List.mem_cons.mp h with rfl | h
                · exact .inr fun _ _ => by omega
                · exact .inl h
              · exact .inr fun a b => by have := h a b; omega
          · rw [if_neg (by simp; omega)]
            refine zw_ok.mpr ⟨ms, m, rfl, rfl, hm9, fun j hj => ?_⟩
            rcases hI j hj with h | h
            · rcases List.mem_cons.mp h with rfl | h
              · exact .inr fun _ b => absurd b q2
              · exact .inl h
            · exact .inr h
        · rw [if_neg (by simp; omega), bind_ok', ite_b, if_neg (by decide)]
          refine zw_ok.mpr ⟨ms, m, rfl, rfl, hm9, fun j hj => ?_⟩
          rcases hI j hj with h | h
          · rcases List.mem_cons.mp h with rfl | h
            · exact .inr fun a _ => absurd a q
            · exact .inl h
          · exact .inr h
    · rintro s ⟨ms, m, e, rfl, hm9, hI⟩
      have : ms = [] := by cases ms with | nil => rfl | cons => cases e
      subst this
      exact ⟨m, rfl, hm9, fun k hk => (hI k hk).resolve_left (by simp)⟩
  rintro d ⟨m, rfl, hm9, hM⟩
  rw [num_rng (by omega), bind_ok']
  refine zc (zw_foldN (fun k : Nat => D.int k) (fun i s => ∃ qs : List Nat, s.2 = nl qs ∧ qs.length = i ∧ (∀ k ∈ ns, k < i → qs.getD k 0 = ps.getD k 0) ∧ Tp s.1) ⟨[], rfl, rfl, by simp, ht⟩ ?_) ?_
  · rintro i ⟨t, s⟩ hi ⟨qs, e, hl, hq, ht⟩
    dsimp only at e ht ⊢
    subst e
    refine zd ht (by decide) (by decide) fun v t hv ht => ?_
    dsimp only
    rw [in_nl, bind_ok', ite_b]
    refine zc (P := fun d : D => ∃ v : Nat, d = .int v ∧ (i ∈ ns → v = ps.getD i 0)) ?_ ?_
    · by_cases q : i ∈ ns
      · rw [if_pos (by simpa using q), len_tr, bind_ok', lt_i, bind_ok', ite_b]
        by_cases q2 : i < ps.length
        · rw [if_pos (by simp; omega), ix_tr q2, bind_ok']
          exact zw_ok.mpr ⟨ga ps i, rfl, fun _ => rfl⟩
        · rw [if_neg (by simp; omega)]
          exact zw_ok.mpr ⟨0, rfl, fun _ => by rw [List.getD_eq_getElem?_getD, List.getElem?_eq_none (by omega)]; rfl⟩
      · rw [if_neg (by simpa using q)]
        exact zw_ok.mpr ⟨v, rfl, fun h => absurd h q⟩
    · rintro d ⟨w, rfl, hw⟩
      rw [G.app_ok (by rw [nl_len]; omega), bind_ok']
      refine zw_ok.mpr ⟨qs ++ [w], by simp [nl], by simp [hl], fun k hk hki => ?_, ht⟩
      rw [List.getD_eq_getElem?_getD]
      by_cases q : k < qs.length
      · rw [List.getElem?_append_left q, ← List.getD_eq_getElem?_getD]
        exact hq k hk (by omega)
      · have : k = i := by omega
        subst this
        rw [List.getElem?_append_right (by omega), show k - qs.length = 0 by omega]
        exact hw hk
  · rintro ⟨t, s⟩ ⟨qs, e, hl, hq, ht⟩
    dsimp only at e ht ⊢
    subst e
    rw [tupl_l, bind_ok']
    refine zw_ok.mpr ⟨⟨qs, rfl, fun k hk => ?_⟩, ht⟩
    by_cases q : k < m
    · exact hq k hk q
    · rw [List.getD_eq_getElem?_getD, List.getElem?_eq_none (by omega)]
      show 0 = _
      by_cases q2 : k < ps.length
      · have := mt (hM k hk q2) q
        omega
      · rw [List.getD_eq_getElem?_getD, List.getElem?_eq_none (by omega)]
        rfl
theorem law_ok (ns : List Int) (_ : ns.length ≤ 63) : f_law_03 (.scr ns) = .ok (.bl true) := by
  have hz := SZ2
  refine Zw.eq ?_
  unfold f_law_03
  have rd {t : List D} (ht : Tp t) {cs : List Nat} (h1 : 0 < cs.length) (h2 : cs.length ≤ 1000) := rule_drawG (cs := cs) (ks := ["yeas", "quorum", "majority", "fraction", "quorum", "premier"]) h1 h2 (by decide) (by decide) (by decide) 4 30 (by omega) (by omega) ht
  refine zc (tape_ok ns) fun t ht => ?_
  refine zcn (rd ht (cs := [0, 0, 1, 2, 3]) (by decide) (by decide)) fun q hq => ?_
  obtain ⟨q, t⟩ := q
  obtain ⟨⟨r, e, hd, _⟩, ht⟩ := hq
  dsimp only at e ht ⊢
  subst e
  refine zcn (seatsB_ok ht) fun q hq => ?_
  obtain ⟨q, t⟩ := q
  obtain ⟨⟨S, e, hS⟩, ht⟩ := hq
  dsimp only at e ht ⊢
  subst e
  have hl : ∀ c, (hold S c).length ≤ 1000 := fun c => by have := hS.le c; omega
  refine zd ht (by decide) (by decide) fun m t hm ht => ?_
  dsimp only
  refine zcn (roll_draw ht (by omega)) fun q hq => ?_
  obtain ⟨q, t⟩ := q
  obtain ⟨⟨vs, e, hvs⟩, ht⟩ := hq
  dsimp only at e ht ⊢
  subst e
  have hb : vs.length ≤ 1000 := by omega
  refine zcn (limits_ok ht) fun q hq => ?_
  obtain ⟨q, t⟩ := q
  obtain ⟨⟨ps, e, hps⟩, ht⟩ := hq
  dsimp only at e ht ⊢
  subst e
  refine zcn (leader_ok ht) fun q hq => ?_
  obtain ⟨q, t⟩ := q
  obtain ⟨⟨ld, e, hld⟩, ht⟩ := hq
  dsimp only at e ht ⊢
  subst e
  rw [law_chambers_ok hd, bind_ok', law_numbers_ok hd, bind_ok']
  refine zcn (rd ht (cs := [0, 1, 2, 3]) (by decide) (by decide)) fun q hq => ?_
  obtain ⟨q, t⟩ := q
  obtain ⟨⟨r2, e, hd2, _⟩, ht⟩ := hq
  dsimp only at e ht ⊢
  subst e
  rw [it_seqL, bind_ok']
  refine zc (zw_for (Q := fun r => r = .nx ()) (fun ds _ => ∀ d ∈ ds, ∃ r : Rul, d = rlD r ∧ r.dep ≤ 4) ?_ (fun d ds s hI => ?_) (fun s _ => rfl)) fun fz hfz => ?_
  · intro d hd
    simp only [List.mem_cons, List.not_mem_nil, or_false] at hd
    rcases hd with rfl | rfl
    · exact ⟨r2, rfl, hd2⟩
    · exact ⟨r, rfl, hd⟩
  · obtain ⟨r, rfl, h1⟩ := hI d (List.mem_cons_self ..)
    have l8 := lvs_le8 h1
    have a1 := len_asc (h := chsL (lvs r))
    have a2 := len_asc (h := numL (lvs r))
    have a3 := List.length_filterMap_le Rul.one (lvs r)
    have a4 := List.length_filterMap_le Rul.num (lvs r)
    unfold chsL at a1
    unfold numL at a2
    rw [named_ok h1, bind_ok', law_chambers_ok h1, bind_ok', tupl_l, bind_ok', law_numbers_ok h1, bind_ok', tupl_l, bind_ok']
    have sm : f_law_same 30 (.tup [tr (ascN (chsL (lvs r))), tr (ascN (numL (lvs r)))]) (.tup [.tup (nl (ascN (chsL (lvs r)))), .tup (nl (ascN (numL (lvs r))))]) = .ok (.bl true) := by
      refine same_refl 29 _ ⟨by simp; omega, fun d hd => ?_⟩
      simp only [List.mem_cons, List.not_mem_nil, or_false] at hd
      rcases hd with rfl | rfl
      · refine ⟨by rw [nl_len]; unfold chsL; omega, fun d hd => ?_⟩
        obtain ⟨k, _, rfl⟩ := List.mem_map.mp hd
        trivial
      · refine ⟨by rw [nl_len]; unfold numL; omega, fun d hd => ?_⟩
        obtain ⟨k, _, rfl⟩ := List.mem_map.mp hd
        trivial
    rw [sm, bind_ok', tr_b, bind_ok', not_b, bind_ok', ite_b, if_neg (by decide)]
    exact zw_ok.mpr fun d hd => hI d (List.mem_cons_of_mem _ hd)
  subst hfz
  rw [fl_nx, len_se, bind_ok', num_rng (by have := hS.1.2.1; omega), bind_ok']
  refine zc (zw_foldN (fun k : Nat => D.int k) (fun i s => ∃ (K : List (Option Nat)) (S2 : Se), s.2.1 = K.map ho ∧ s.2.2 = S2.map ch ∧ S2.length = i ∧ K.length ≤ 12 * i ∧ (∀ c, (hold S2 c).length ≤ 12) ∧ (∀ c ∈ chsL (lvs r), c < i → hold S2 c = hold S c ∧ ∀ o ∈ hold S c, o ∈ K) ∧ Tp s.1) ⟨[], [], rfl, rfl, rfl, by simp, by simp [hold], by simp, ht⟩ ?_) ?_
  · rintro i ⟨t, k, s⟩ hi ⟨K, S2, e1, e2, h1, h2, h3, h4, ht⟩
    dsimp only at e1 e2 ht ⊢
    subst e1 e2
    have hS4 := hS.1.2.1
    refine zcn (holdersB_ok ht (by omega) (by omega)) fun q hq => ?_
    obtain ⟨q, t⟩ := q
    obtain ⟨⟨l, e, hl2, hl3, hl4⟩, ht⟩ := hq
    dsimp only at e ht ⊢
    subst e
    rw [G.app_ok (by rw [List.length_map]; omega), bind_ok', in_nl, bind_ok', ite_b]
    have hap : ∀ (x : Ch) c, hold (S2 ++ [x]) c = if c = i then x else hold S2 c := fun x c => by
      unfold hold
      rw [List.getD_eq_getElem?_getD, List.getD_eq_getElem?_getD]
      by_cases q : c < S2.length
      · rw [List.getElem?_append_left q, if_neg (by omega)]
      · by_cases q2 : c = i
        · rw [if_pos q2, List.getElem?_append_right (by omega), show c - S2.length = 0 by omega]
          rfl
        · rw [if_neg q2, List.getElem?_eq_none (by simp; omega), List.getElem?_eq_none (by omega)]
    by_cases q : i ∈ ascN (chsL (lvs r))
    · rw [if_pos (by simpa using q), show S2.map ch ++ [ch l] = (S2 ++ [l]).map ch by simp]
      have hix : z2 .ix (se S) (.int i) = .ok (ch (hold S i)) := ix_se hi
      rw [hix, bind_ok', st_ok (by rw [List.length_map, List.length_append]; simp; omega), bind_ok', bind_ok', show z1o .list (ch (hold S i)) = .ok ((hold S i).map ho) from rfl, bind_ok', add_l (by rw [List.length_map, List.length_map]; have := hS.le i; omega), bind_ok']
      have hset : ((S2 ++ [l]).map ch).set i (ch (hold S i)) = (S2 ++ [hold S i]).map ch := by
        rw [← List.map_set]
        congr 1
        rw [List.set_append, if_neg (by omega), show i - S2.length = 0 by omega]
        rfl
      rw [hset, ← List.map_append]
      refine zw_ok.mpr ⟨K ++ hold S i, S2 ++ [hold S i], rfl, rfl, by simp [h1], by have := hS.le i; simp; omega, fun c => ?_, fun c hc hci => ?_, ht⟩
      · rw [hap]
        split
        · exact hS.le i
        · exact h3 c
      · rw [hap]
        by_cases q2 : c = i
        · subst q2
          rw [if_pos rfl]
          exact ⟨rfl, fun o ho => List.mem_append.mpr (.inr ho)⟩
        · rw [if_neg q2]
          obtain ⟨a, b⟩ := h4 c hc (by omega)
          exact ⟨a, fun o ho => List.mem_append.mpr (.inl (b o ho))⟩
    · rw [if_neg (by simpa using q)]
      refine zw_ok.mpr ⟨K, S2 ++ [l], rfl, by simp, by simp [h1], by omega, fun c => ?_, fun c hc hci => ?_, ht⟩
      · rw [hap]
        split
        · exact hl3
        · exact h3 c
      · have hne : c ≠ i := fun z => q (mem_asc.mpr (z ▸ hc))
        rw [hap, if_neg hne]
        exact h4 c hc (by omega)
  rintro ⟨t, k, s⟩ ⟨K, S2, e1, e2, h1, h2, h3, h4, ht⟩
  dsimp only at e1 e2 ht ⊢
  subst e1 e2
  have hS4 := hS.1.2.1
  have hhold : ∀ c ∈ chsL (lvs r), hold S2 c = hold S c ∧ ∀ o ∈ hold S c, o ∈ K := fun c hc => by
    by_cases q : c < S.length
    · exact h4 c hc q
    · have e1 : hold S c = [] := by rw [hold, List.getD_eq_getElem?_getD, List.getElem?_eq_none (by omega)]; rfl
      have e2 : hold S2 c = [] := by rw [hold, List.getD_eq_getElem?_getD, List.getElem?_eq_none (by omega)]; rfl
      rw [e1, e2]
      exact ⟨rfl, by simp⟩
  refine zcn (leader_ok ht) fun q hq => ?_
  obtain ⟨q, t⟩ := q
  obtain ⟨⟨ld2, e, hld2⟩, ht⟩ := hq
  dsimp only at e ht ⊢
  subst e
  have l8 := lvs_le8 hd
  have l0 : 0 < (lvs r).length := by
    have : ∀ r : Rul, 0 < (lvs r).length := fun r => by
      induction r with
      | all x y hx hy => simp only [lvs, List.length_append]; omega
      | any x y hx hy => simp only [lvs, List.length_append]; omega
      | prem => simp [lvs]
      | yeas _ _ => simp [lvs]
      | quo _ _ => simp [lvs]
      | maj _ _ => simp [lvs]
      | frac _ _ _ _ => simp [lvs]
    exact this r
  rw [law_leaves_ok r 30 (by omega) (by omega), bind_ok', in_prem l0, bind_ok', ite_b]
  refine zc (P := fun s : D × List D => ∃ (ld2 : Option Nat) (K2 : List (Option Nat)), s = (ho ld2, K2.map ho) ∧ (∀ o ∈ K, o ∈ K2) ∧ K2.length ≤ 100 ∧ ((lvs r).any Rul.isP = true → ld2 = ld ∧ ld ∈ K2)) ?_ ?_
  · by_cases q : (lvs r).any Rul.isP = true
    · rw [if_pos q, G.app_ok (by rw [List.length_map]; omega), bind_ok']
      exact zw_ok.mpr ⟨ld, K ++ [ld], by simp, fun o ho => List.mem_append.mpr (.inl ho), by simp; omega, fun _ => ⟨rfl, by simp⟩⟩
    · rw [if_neg q]
      exact zw_ok.mpr ⟨ld2, K, rfl, fun o ho => ho, by omega, fun h => absurd h q⟩
  rintro _ ⟨ld3, K2, rfl, hK, hK2, hP⟩
  dsimp only
  refine zcn (roll_draw ht (m := 12) (by omega)) fun q hq => ?_
  obtain ⟨q, t⟩ := q
  obtain ⟨⟨ws, e, hws⟩, ht⟩ := hq
  dsimp only at e ht ⊢
  subst e
  rw [list_rol (by omega), bind_ok', show itD .rng [.int 12] = .ok ((List.range 12).map fun k : Nat => D.int k) from num_rng (n := 12) (by omega), bind_ok']
  refine zc (zw_foldN (fun k : Nat => D.int k) (fun i (s : List D) => ∃ us : List Vt, s = us.map (fun v => D.str v.s) ∧ us.length = 12 ∧ ∀ x, x < i → some x ∈ K2 → vt us x = vt vs x) ⟨ws, rfl, hws, by omega⟩ ?_) ?_
  · rintro i s hi ⟨us, rfl, h1, h2⟩
    rw [inn_ho, bind_ok', ite_b]
    by_cases q : some i ∈ K2
    · rw [if_pos (by simpa using q), rep12, bind_ok', add_rol (by simp; omega), bind_ok', ix_rol (by simp; omega) (by simp; omega), bind_ok', st_ok (by rw [List.length_map]; omega), bind_ok', vt_rep]
      refine zw_ok.mpr ⟨us.set i (vt vs i), by rw [List.map_set], by simp [h1], fun x hx hx2 => ?_⟩
      rw [vt_set (by omega)]
      split
      · rename_i e; rw [e]
      · exact h2 x (by omega) hx2
    · rw [if_neg (by simpa using q)]
      refine zw_ok.mpr ⟨us, rfl, h1, fun x hx hx2 => h2 x ?_ hx2⟩
      have : x ≠ i := fun z => q (z ▸ hx2)
      omega
  rintro _ ⟨us, rfl, hus, hvt⟩
  have hsame := fun b => same_bl (b := b)
  rw [law_passes_okR hb hl r 30 (by omega), bind_ok', passes_okR hb hl (by omega), bind_ok', hsame, bind_ok', tr_b, bind_ok', not_b, bind_ok', ite_b, if_neg (by decide)]
  refine zcn (other_limits_ok ht hps) fun q hq => ?_
  obtain ⟨q, t⟩ := q
  obtain ⟨⟨qs, e, hqs⟩, ht⟩ := hq
  dsimp only at e ht ⊢
  subst e
  rw [tupl_l, bind_ok', show ∀ (m : Z D), zrec .join (D.str "") m = m from fun _ => rfl, joinV_ok (by omega), bind_ok']
  rw [show D.tup (S2.map ch) = se S2 from rfl, passes_okR (by omega) (fun c => by have := h3 c; omega) (by omega), bind_ok']
  have hvs2 : ∀ x, some x ∈ K2 → x < 12 → vt us x = vt vs x := fun x hx h => hvt x h hx
  have key : evR qs (tlR S2 us) (prB us ld3) r = evR ps (tlR S vs) (prB vs ld) r := by
    refine evR_cong r (fun c hc => ?_) (fun k hk => hqs k (mem_asc.mpr hk)) (fun hp => ?_)
    · obtain ⟨a, b⟩ := hhold c hc
      have : vsL us (hold S2 c) = vsL vs (hold S c) := by
        rw [a]
        unfold vsL
        refine fm_congr fun o ho => ?_
        cases o with
        | none => rfl
        | some x => simp only [Option.map_some]; rw [hvs2 x (hK _ (b _ ho)) (hS.2 c x ho)]
      unfold tlR cvt
      rw [this, a]
    · obtain ⟨rfl, hm⟩ := hP hp
      cases ld3 with
      | none => rfl
      | some l => simp only [prB]; rw [hvs2 l hm (hld l rfl)]
  rw [key, hsame, bind_ok']
  exact zw_ok.mpr rfl
end K03
open PySem PySem.W PyProof.Rows
set_option maxHeartbeats 0 in
theorem PySem.Challenge.cw_gazette_k03_whole_only_named_matters_holds : PySem.Challenge.rw_gazette_k03_whole_only_named_matters.Holds := by
  w_on; o_law; k_head; (case hw => w_witness2)
  k_fill
  refine LamX.walk_ofTs (l := PySem.Challenge.rw_gazette_k03_whole_only_named_matters) (n := 63) (k := 200) (x := "script") (CX := fun w => L2.CX PySem.Challenge.rw_gazette_k03_whole_only_named_matters.prog w) rfl (by decide) rfl ⟨rfl, by decide, by decide⟩ (fun w h Y => PySem.W.km_in_of Y) ?F (fun _ _ _ _ _ h => G.cx_no h)
  case F =>
    intro w mg fa h Y KX G hmg
    have hT := PySem.W.km_tabs_of Y
    refine' K03.all_mk KX G hmg ?a0 ?l0 ?q0 ?k0 ?a1 ?l1 ?q1 ?k1 ?a2 ?l2 ?q2 ?k2 ?a3 ?l3 ?q3 ?k3 ?a4 ?l4 ?q4 ?k4 ?a5 ?l5 ?q5 ?k5 ?a6 ?l6 ?q6 ?k6 ?a7 ?l7 ?q7 ?k7 ?a8 ?l8 ?q8 ?k8 ?a9 ?l9 ?q9 ?k9 ?a10 ?l10 ?q10 ?k10 ?a11 ?l11 ?q11 ?k11 ?a12 ?l12 ?q12 ?k12 ?a13 ?l13 ?q13 ?k13 ?a14 ?l14 ?q14 ?k14 ?a15 ?l15 ?q15 ?k15 ?a16 ?l16 ?q16 ?k16 ?a17 ?l17 ?q17 ?k17 ?a18 ?l18 ?q18 ?k18 ?a19 ?l19 ?q19 ?k19 ?a20 ?l20 ?q20 ?k20 ?a21 ?l21 ?q21 ?k21 ?a22 ?l22 ?q22 ?k22 ?a23 ?l23 ?q23 ?k23 ?a24 ?l24 ?q24 ?k24 ?a25 ?l25 ?q25 ?k25 ?a26 ?l26 ?q26 ?k26 ?a27 ?l27 ?q27 ?k27 ?a28 ?l28 ?q28 ?k28 ?a29 ?l29 ?q29 ?k29 ?u6_parameters ?eZ6 ?u6_premier ?xC30 ?rC30 ?hC30 ?nC30 ?tC30 ?z0 ?z1 ?z2 ?z3 ?z4 ?z5 ?z6 ?z7 ?z8 ?z9 ?z10 ?z11 ?z12 ?z13 ?z14 ?z15 ?z16 ?z17 ?z18 ?z19 ?z20 (K03.pure_of K03.law_ok)
    (case a0 => k_is)
    (case l0 => k_is)
    (case q0 => k_is)
    (case k0 => k_is)
    (case a1 => k_is)
    (case l1 => k_is)
    (case q1 => k_is)
    (case k1 => k_is)
    (case a2 => k_is)
    (case l2 => k_is)
    (case q2 => k_is)
    (case k2 => k_is)
    (case a3 => k_is)
    (case l3 => k_is)
    (case q3 => k_is)
    (case k3 => k_is)
    (case a4 => k_is)
    (case l4 => k_is)
    (case q4 => k_is)
    (case k4 => k_is)
    (case a5 => k_is)
    (case l5 => k_is)
    (case q5 => k_is)
    (case k5 => k_is)
    (case a6 => k_is)
    (case l6 => k_is)
    (case q6 => k_is)
    (case k6 => k_is)
    (case a7 => k_is)
    (case l7 => k_is)
    (case q7 => k_is)
    (case k7 => k_is)
    (case a8 => k_is)
    (case l8 => k_is)
    (case q8 => k_is)
    (case k8 => k_is)
    (case a9 => k_is)
    (case l9 => k_is)
    (case q9 => k_is)
    (case k9 => k_is)
    (case a10 => k_is)
    (case l10 => k_is)
    (case q10 => k_is)
    (case k10 => k_is)
    (case a11 => k_is)
    (case l11 => k_is)
    (case q11 => k_is)
    (case k11 => k_is)
    (case a12 => k_is)
    (case l12 => k_is)
    (case q12 => k_is)
    (case k12 => k_is)
    (case a13 => k_is)
    (case l13 => k_is)
    (case q13 => k_is)
    (case k13 => k_is)
    (case a14 => k_is)
    (case l14 => k_is)
    (case q14 => k_is)
    (case k14 => k_is)
    (case a15 => k_is)
    (case l15 => k_is)
    (case q15 => k_is)
    (case k15 => k_is)
    (case a16 => k_is)
    (case l16 => k_is)
    (case q16 => k_is)
    (case k16 => k_is)
    (case a17 => k_is)
    (case l17 => k_is)
    (case q17 => k_is)
    (case k17 => k_is)
    (case a18 => k_is)
    (case l18 => k_is)
    (case q18 => k_is)
    (case k18 => k_is)
    (case a19 => k_is)
    (case l19 => k_is)
    (case q19 => k_is)
    (case k19 => k_is)
    (case a20 => k_is)
    (case l20 => k_is)
    (case q20 => k_is)
    (case k20 => k_is)
    (case a21 => k_is)
    (case l21 => k_is)
    (case q21 => k_is)
    (case k21 => k_is)
    (case a22 => k_is)
    (case l22 => k_is)
    (case q22 => k_is)
    (case k22 => k_is)
    (case a23 => k_is)
    (case l23 => k_is)
    (case q23 => k_is)
    (case k23 => k_is)
    (case a24 => k_is)
    (case l24 => k_is)
    (case q24 => k_is)
    (case k24 => k_is)
    (case a25 => k_is)
    (case l25 => k_is)
    (case q25 => k_is)
    (case k25 => k_is)
    (case a26 => k_is)
    (case l26 => k_is)
    (case q26 => k_is)
    (case k26 => k_is)
    (case a27 => k_is)
    (case l27 => k_is)
    (case q27 => k_is)
    (case k27 => k_is)
    (case a28 => k_is)
    (case l28 => k_is)
    (case q28 => k_is)
    (case k28 => k_is)
    (case a29 => k_is)
    (case l29 => k_is)
    (case q29 => k_is)
    (case k29 => k_is)
    (case u6_parameters => k_is)
    (case eZ6 => k_is)
    (case u6_premier => k_is)
    (case xC30 => k_is)
    (case rC30 => first | exact rfl | simp)
    (case hC30 => kernel_rfl)
    (case nC30 => kernel_rfl)
    (case tC30 => exact hT _ (by decide))
    (case z0 => k_is)
    (case z1 => k_is)
    (case z2 => k_is)
    (case z3 => k_is)
    (case z4 => k_is)
    (case z5 => k_is)
    (case z6 => k_is)
    (case z7 => k_is)
    (case z8 => k_is)
    (case z9 => k_is)
    (case z10 => k_is)
    (case z11 => k_is)
    (case z12 => k_is)
    (case z13 => k_is)
    (case z14 => k_is)
    (case z15 => k_is)
    (case z16 => k_is)
    (case z17 => k_is)
    (case z18 => k_is)
    (case z19 => k_is)
    (case z20 => k_is)
