import PyProof.Rows.All
import Wide.All
import OpenK.AllK
import Wide.FinOn
import HandS.ForMost
import HandS.ForExc
import HandS.Wide
import HandS.Flow
import HandS.IsInst
import HandS.StrMore
import HandS.SetFor
import HandS.TupAny
import HandS.Zip
import HandS.Rev
import HandS.Iter
import KE.DataEq
import HandS.Conv
import HandS.Lambda
import PyProof.Rows.StrMul
import HandS.TupLe
import KE.DataCmp
import KE.KTupSum
import HandS.TupMul
import HandS.WordsExc
import HandS.Ends
import HandS.Star
import KE.GoesMore
import HandS.Zip0
import HandS.RevRange
import HandS.Remove
import KE.KIndexOf
import KE.DataMinMax
import HandS.Strs
import HandS.Style
import HandS.TupSets
import KE.SortData
import KE.SortKeyHeap
import HandS.SortKw
import HandS.Nested
import HandS.MakeKwOnly
import HandS.EndTab
import HandS.HotCalls
import HandS.ExcIs
import HandS.ExcOwn
import PySem.Challenge.RW_gazette_k28_inverse_edits
set_option Elab.async false
set_option linter.all false
set_option maxRecDepth 100000
set_option maxHeartbeats 1000000
namespace GT
open PySem PySem.Spec PyProof.Rows L2 HT
/-! ### tuples whose object is known: it has no dict -/
def NT (o : Obj) : Prop := o.cls = .type "tuple" ∧ o.dict = none
/-- a new tuple -/
def MkT (H : Hp) (xs : List V) (Q : VK) : Prop := ∀ (p : Addr) (o : Obj), H p = none → NT o → Q (.ref p) (upd H p (.frz o (.tup xs)))
def TupM (H : Hp) (a : Addr) (xs : List V) : Prop := ∃ o, H a = some (.frz o (.tup xs)) ∧ NT o
def SqN (K : PySem.W.Frag) (H : Hp) (a : Addr) (xs : List V) : Prop :=
  TupM H a xs ∨ ∃ (o : Obj) (its : Array Value) (n : Nat), K.lookup a = some o ∧ o.cls = .type "tuple" ∧ o.dict = none ∧ o.data = .seq its n ∧ its.size ≤ sizeLine ∧ Vals xs its.toList
theorem SqN.t {K : PySem.W.Frag} {H : Hp} {a : Addr} {xs : List V} (h : SqN K H a xs) : SqT K H a xs := by
  rcases h with ⟨o, h, _⟩ | ⟨o, its, n, h1, h2, _, h4, h5, h6⟩
  · exact .inl (.inr ⟨o, h⟩)
  · exact .inr ⟨o, its, n, h1, h2, h4, h5, h6⟩
section
variable {X : Cx} {pins : List (Addr × Obj)} {σ : L2.St} {H : Hp} {s : Shared}
theorem newOk {h : Heap} {a : Addr} {o : Obj} {xs : List V} {its : List Value} {n : Nat} (hT : h.get? a = some o) (ho : NT o) (hd : o.data = .seq its.toArray n) (z : xs.length ≤ sizeLine) (r : Vals xs its) :
    ObjOk X.prog X.w (upd H a (.frz o (.tup xs))) h a (.frz o (.tup xs)) := ⟨hT, z, its, r, o, hT, ho.1, n, hd⟩
theorem newT {t' : Nat} {o : Obj} {xs : List V} {its : List Value} {n : Nat} {h' : Heap} {Q : VK} (I : Inv X pins σ H s) (k : ∀ b u, s.heap.get? b = some u → h'.get? b = some u) {a : Addr} (ha : s.heap.objs.size ≤ a) (hT : h'.get? a = some o) (ho : NT o)
    (hd : o.data = .seq its.toArray n) (z : xs.length ≤ sizeLine) (r : Vals xs its) (q : MkT H xs Q) : EP X pins σ Q (.ref a) { s with heap := h', toks := t' } :=
  ⟨.ref a, upd H a (.frz o (.tup xs)), I.laid k ha (newOk hT ho hd z r), rfl, q _ _ (I.hok.fresh ha) ho⟩
theorem newP {xs : List V} {its : List Value} {Q : VK} {t' : Nat} (I : Inv X pins σ H s) (z : xs.length ≤ sizeLine) (r : Vals xs its) (q : MkT H xs Q) :
    EP X pins σ Q (.ref s.heap.objs.size) { s with heap := s.heap.push { cls := .type "tuple", data := .seq its.toArray }, toks := t' } :=
  newT I (fun b u e => Heap.get?_push_of_some _ e) (Nat.le_refl _) (Heap.get?_push_size _ rfl) ⟨rfl, rfl⟩ rfl z r q
end
/-! displays -/
def tTupN (t : TA) : TE := fun σ H Q => t σ H fun xs H1 => xs.length ≤ sizeLine ∧ MkT H1 xs Q
theorem pe_tupN {X : Cx} {es : List Expr} {t : TA} {pos : Pos} {x1} (h : PA X es t) : PE X (.Tuple es x1 pos) (tTupN t) := by
  refine ⟨fun pins s σ H Q I hq => ?_⟩
  refine wpAny_Tuple_spliced (thn (h.run pos pins s σ H _ I hq) fun us s1 ⟨xs, H1, I1, r, z, q⟩ => ⟨by rw [← r.length]; exact z, ?_⟩)
  exact newP (t' := s1.toks) I1 z r q
section
variable {X : Cx}
/-! tuple(x) -/
theorem call_tuple_ofN : CallR X (.type "tuple") (fun xs H Q => ∃ p ys, xs = [.ref p] ∧ ((SqL X.K H p ys ∧ MkT H ys Q) ∨ (SqT X.K H p ys ∧ Q (.ref p) H))) := by
  intro pins s σ H xs us Q I r h
  obtain ⟨p, ys, rfl, h⟩ := h
  obtain ⟨u, rfl, rx⟩ := vals1 r
  cases rx
  rcases h with ⟨hq, q⟩ | ⟨hq, q⟩
  · obtain ⟨its, r', pl, hz⟩ := I.list hq
    refine call_tuple_list pl.isList (fun h' kp => ?_) (by rw [List.size_toArray, ← r'.length]; exact hz)
    have I1 : Inv X pins σ H { s with heap := h' } := I.kept (t' := s.toks) kp
    exact newP (t' := s.toks) I1 hz r' q
  · obtain ⟨its, r', pl, hz⟩ := I.tuple hq
    exact call_tuple_same pl ⟨.ref p, H, I, rfl, q⟩
/-! slices -/
def rSlN (K : PySem.W.Frag) : V → Option Int → Option Int → Hp → VK → Prop := fun x lo hi H Q => ∃ a xs, x = .ref a ∧ SqT K H a xs ∧
  (HT.sIx xs.length 0 lo = 0 ∧ HT.sIx xs.length xs.length hi = xs.length → Q (.ref a) H) ∧ (¬ (HT.sIx xs.length 0 lo = 0 ∧ HT.sIx xs.length xs.length hi = xs.length) → MkT H (cutV xs lo hi) Q)
theorem sl_tupN : SlR X (rSlN X.K) := by
  intro pins s σ H x v vl vu lo hi sl Q I rx hs pl pu h
  obtain ⟨a, xs, rfl, hx, q1, q2⟩ := h
  cases rx
  obtain ⟨its, r, ht, hz⟩ := I.tuple hx
  have hlen : its.toArray.size = xs.length := by rw [List.size_toArray]; exact r.length.symm
  refine ⟨"tuple", _, PyProof.Rows.slot_tuple_getitem.lookup, ht.typeIs, ?_⟩
  by_cases hw : HT.sIx xs.length 0 lo = 0 ∧ HT.sIx xs.length xs.length hi = xs.length
  · exact getItem_tuple_whole ht hs pl pu (by rw [hlen]; exact hw) ⟨.ref a, H, I, rfl, q1 hw⟩
  · refine HT.getItem_tuple_cut ht hs pl pu (by rw [hlen]; exact hw) ?_ (by rw [hlen]; exact hz)
    rw [hlen]
    exact newP (t' := s.toks) I (Nat.le_trans (cutV_length xs lo hi) hz) ((r.drop (HT.sIx xs.length 0 lo)).take (HT.sIx xs.length xs.length hi - HT.sIx xs.length 0 lo)) (q2 hw)
/-! t + u -/
def rCatN (K : PySem.W.Frag) : R2 := fun x y H Q => ∃ a b xs ys, x = .ref a ∧ y = .ref b ∧ SqT K H a xs ∧ SqT K H b ys ∧ xs.length + ys.length ≤ sizeLine ∧
  (xs = [] → Q (.ref b) H) ∧ (xs ≠ [] → ys = [] → Q (.ref a) H) ∧ (xs ≠ [] → ys ≠ [] → MkT H (xs ++ ys) Q)
theorem op_catN : OpR X (binaryOp .Add) (rCatN X.K) := by
  intro pins s σ H x y v u Q I rx ry h
  obtain ⟨a, b, xs, ys, rfl, rfl, ha, hb, hz, q0, q1, q2⟩ := h
  cases rx
  cases ry
  obtain ⟨its, r1, p1, _⟩ := I.tuple ha
  obtain ⟨its2, r2, p2, _⟩ := I.tuple hb
  by_cases hx : xs = []
  · subst hx
    cases r1
    exact cat_tup0 p1 p2 ⟨.ref b, H, I, rfl, q0 rfl⟩
  · refine HT.cat_tup p1 p2 (fun z => hx (r1.nil_iff.mp z)) (fun z => ⟨.ref a, H, I, rfl, q1 hx (r2.nil_iff.mp z)⟩) (fun z => ?_) (by rw [← r1.length, ← r2.length]; exact hz)
    exact newP (t' := s.toks) I (by rw [List.length_append]; exact hz) (r1.append r2) (q2 hx fun w => z (r2.nil_iff.mpr w))
/-! divmod -/
end
/-! enumerate(list) -/
def IteN (K : PySem.W.Frag) (a : Addr) : It :=
  ⟨fun i H => ∃ (xs : List V) (x : V), SqL K H a xs ∧ xs[i]? = some x, fun i H v H' => ∃ T o x, v = .ref T ∧ H T = none ∧ NT o ∧ H' = upd H T (.frz o (.tup [.int (i : Nat), x])) ∧ ∀ xs, SqL K H a xs → xs[i]? = some x, fun i H => ∃ xs : List V, SqL K H a xs ∧ xs.length ≤ i⟩
theorem turn_enumN {P : Program} {w : World} {K : PySem.W.Frag} {elts : List Expr} {kk : Nat} {tpos : Pos} (a e it : Addr) :
    Turn P w K (.Tuple elts kk tpos) (IteN K a) [e, it] e (fun i h => (∃ old, IsEnum h e it ((i : Nat) : Int) old) ∧ h.IsListIter it a i ∧ e ≠ it) where
  mem := by simp
  obj := fun i h st b hb => by
    obtain ⟨⟨old, he⟩, ⟨o, ho, hc, hd⟩, _⟩ := st
    have e' : b = e ∨ b = it := by simpa using hb
    rcases e' with z | z
    · rw [z]; exact ⟨_, he, fun v q => nomatch q⟩
    · rw [z]; exact ⟨o, ho, fun v q => by rw [hd] at q; cases q⟩
  keep := fun i h h' st k => let ⟨⟨old, he⟩, hi, hne⟩ := st; ⟨⟨old, k e (by simp) _ he⟩, hi.at fun o q => k it (by simp) o q, hne⟩
  item := by
    intro X hP hw hK hc i pins s σ H E I hf st hg
    subst hP hw hK
    obtain ⟨⟨old, he⟩, hit, hne⟩ := st
    obtain ⟨xs, x, hq, hx⟩ := hg
    obtain ⟨its, rv, p, hz⟩ := I.list hq
    obtain ⟨u, hu, ru⟩ := rv.get hx
    have hel : e < s.heap.objs.size := Heap.lt_size he
    have hil : it < s.heap.objs.size := by obtain ⟨_, q, _⟩ := hit; exact Heap.lt_size q
    refine wpAny_pyNext_enum_item he hit p.isList (x := u) (by simpa using hu) hne fun h' ho hit' hT hsz hk => ?_
    refine ⟨_, rfl, wpAny_letOwnedTupleGo_enum (s := { s with heap := h', toks := s.toks + 1 }) ho fun h'' he' sb => ?_⟩
    have hT2 : h''.get? s.heap.objs.size = some { cls := .type "tuple", data := .seq #[.int i s.toks, u] } := (sb.2 _ (Nat.ne_of_gt hel)).trans hT
    have new := newOk (X := X) (H := H) (xs := [.int (i : Nat), x]) (its := [.int i s.toks, u]) hT2 ⟨rfl, rfl⟩ rfl (by show 2 ≤ sizeLine; decide) (.cons ⟨_, rfl⟩ (.cons ru .nil))
    have I1 := I.turnedNew (t' := s.toks + 1) (ch := [e, it]) (fun b ob hb q => (sb.2 b (fun z => hb (by simp [z]))).trans (hk b ob (fun z => hb (by simp [z])) (fun z => hb (by simp [z])) q)) hf (Nat.le_refl _) new
    refine ⟨.ref s.heap.objs.size, _, I1, rfl, ⟨_, _, x, rfl, I.hok.fresh (Nat.le_refl _), ⟨rfl, rfl⟩, rfl, fun ys hy => by rw [I.list_inj hy hq]; exact hx⟩, ⟨⟨u, ?_⟩, hit'.at fun o q => (sb.2 it (Ne.symm hne)).trans q, hne⟩, fun b hb => ?_⟩
    · have e1 : ((i + 1 : Nat) : Int) = (i : Int) + 1 := by omega
      rw [e1]; exact he'
    · have hb' : b < s.heap.objs.size := by
        have e' : b = e ∨ b = it := by simpa using hb
        rcases e' with z | z
        · rw [z]; exact hel
        · rw [z]; exact hil
      rw [upd_ne (Nat.ne_of_lt hb')]
      exact (hf b hb).1
  done := by
    intro X hP hw hK hc i pins s σ H E I hf st hg
    subst hP hw hK
    obtain ⟨⟨old, he⟩, hit, hne⟩ := st
    obtain ⟨xs, hq, hx⟩ := hg
    obtain ⟨its, rv, p, hz⟩ := I.list hq
    obtain ⟨f0, f1, f2, f3, f4, f5⟩ := hf it (by simp)
    have hl := rv.length
    exact wpAny_pyNext_enum_end (I.ok.hd hc) he hit p.isList (by simp; omega) fun h' eb => ⟨rfl, I.turned (t' := s.toks) (fun b o hb q => eb b o hb q) f0 f1 f3 f4 f5⟩
  self := fun A i s Q E st h => let ⟨⟨_, he⟩, _⟩ := st; wpAny_pyIter_enum he h
end GT
namespace G
open PySem PySem.Spec PyProof.Rows L2
/-! ### data -/
inductive D where
  | non | bl (b : Bool) | int (i : Int) | str (s : Str) | tup (xs : List D) | lst (xs : List D) | scr (ns : List Int) | dct (ks : List Int) (ds : List D)
  deriving Inhabited
/-- a dict of ints -/
def zk (ks : List Int) (vs : List V) : List (Key × V) := (ks.map Sum.inl).zip vs
mutual
def Rep (K : PySem.W.Frag) (M : Hp) : D → V → Prop
  | .non, v => v = .non
  | .bl b, v => v = .bl b
  | .int i, v => v = .int i
  | .str s, v => v = .str s
  | .tup ds, v => ∃ a vs, v = .ref a ∧ GT.SqN K M a vs ∧ Reps K M ds vs
  | .lst ds, v => ∃ a vs, v = .ref a ∧ M a = some (.lst vs) ∧ Reps K M ds vs
  | .scr ns, v => ∃ a, v = .ref a ∧ SqL K M a (ns.map V.int)
  | .dct ks ds, v => ∃ a vs, v = .ref a ∧ M a = some (.dK (zk ks vs)) ∧ ks.length = ds.length ∧ Reps K M ds vs
def Reps (K : PySem.W.Frag) (M : Hp) : List D → List V → Prop
  | [], vs => vs = []
  | d :: ds, vs => ∃ v vs', vs = v :: vs' ∧ Rep K M d v ∧ Reps K M ds vs'
end
theorem Same.sqt {K : PySem.W.Frag} {H H' : Hp} {a : Addr} {xs : List V} (e : Same H H') (h : SqT K H a xs) : SqT K H' a xs := by
  rcases h with (h | ⟨o, h⟩) | h
  · exact .inl (.inl (e _ _ h))
  · exact .inl (.inr ⟨o, e _ _ h⟩)
  · exact .inr h
theorem Same.sqn {K : PySem.W.Frag} {H H' : Hp} {a : Addr} {xs : List V} (e : Same H H') (h : GT.SqN K H a xs) : GT.SqN K H' a xs := by
  rcases h with ⟨o, h, n⟩ | h
  · exact .inl ⟨o, e _ _ h, n⟩
  · exact .inr h
section
variable {K : PySem.W.Frag} {M M' : Hp}
mutual
theorem Rep.mono (e : Same M M') : ∀ {d : D} {v : V}, Rep K M d v → Rep K M' d v
  | .non, _, h => by simp only [Rep] at h ⊢; exact h
  | .bl _, _, h => by simp only [Rep] at h ⊢; exact h
  | .int _, _, h => by simp only [Rep] at h ⊢; exact h
  | .str _, _, h => by simp only [Rep] at h ⊢; exact h
  | .tup ds, _, h => by
    simp only [Rep] at h ⊢
    obtain ⟨a, vs, e1, e2, e3⟩ := h
    exact ⟨a, vs, e1, Same.sqn e e2, Reps.mono e e3⟩
  | .lst ds, _, h => by
    simp only [Rep] at h ⊢
    obtain ⟨a, vs, e1, e2, e3⟩ := h
    exact ⟨a, vs, e1, e _ _ e2, Reps.mono e e3⟩
  | .scr ns, _, h => by
    simp only [Rep] at h ⊢
    obtain ⟨a, e1, e2⟩ := h
    exact ⟨a, e1, e.seq e2⟩
  | .dct ks ds, _, h => by
    simp only [Rep] at h ⊢
    obtain ⟨a, vs, e1, e2, e3, e4⟩ := h
    exact ⟨a, vs, e1, e _ _ e2, e3, Reps.mono e e4⟩
theorem Reps.mono (e : Same M M') : ∀ {ds : List D} {vs : List V}, Reps K M ds vs → Reps K M' ds vs
  | [], _, h => by simp only [Reps] at h ⊢; exact h
  | d :: ds, _, h => by
    simp only [Reps] at h ⊢
    obtain ⟨v, vs', e1, e2, e3⟩ := h
    exact ⟨v, vs', e1, Rep.mono e e2, Reps.mono e e3⟩
end
theorem Reps.length : ∀ {ds : List D} {vs : List V}, Reps K M ds vs → ds.length = vs.length
  | [], _, h => by simp only [Reps] at h; subst h; rfl
  | d :: ds, _, h => by
    simp only [Reps] at h
    obtain ⟨v, vs', rfl, _, e3⟩ := h
    simp [Reps.length e3]
theorem Reps.isEmpty {ds : List D} {vs : List V} (h : Reps K M ds vs) : vs.isEmpty = ds.isEmpty := by
  have := h.length
  cases ds <;> cases vs <;> simp_all
theorem Reps.get : ∀ {ds : List D} {vs : List V} {i : Nat} {d : D}, Reps K M ds vs → ds[i]? = some d → ∃ v, vs[i]? = some v ∧ Rep K M d v
  | [], _, _, _, _, h => by simp at h
  | d :: ds, _, i, d', h, hi => by
    simp only [Reps] at h
    obtain ⟨v, vs', rfl, e2, e3⟩ := h
    cases i with
    | zero => simp at hi; subst hi; exact ⟨v, rfl, e2⟩
    | succ i => simp at hi ⊢; exact Reps.get e3 hi
theorem Reps.append : ∀ {ds es : List D} {vs ws : List V}, Reps K M ds vs → Reps K M es ws → Reps K M (ds ++ es) (vs ++ ws)
  | [], _, _, _, h, h2 => by simp only [Reps] at h; subst h; exact h2
  | d :: ds, es, _, ws, h, h2 => by
    simp only [Reps] at h
    obtain ⟨v, vs', rfl, e2, e3⟩ := h
    simp only [List.cons_append, Reps]
    exact ⟨v, vs' ++ ws, rfl, e2, Reps.append e3 h2⟩
theorem Reps.one {d : D} {v : V} (h : Rep K M d v) : Reps K M [d] [v] := by
  simp only [Reps]
  exact ⟨v, [], rfl, h, rfl⟩
theorem Reps.set : ∀ {ds : List D} {vs : List V} {d : D} {v : V} (i : Nat), Rep K M d v → Reps K M ds vs → Reps K M (ds.set i d) (vs.set i v)
  | [], _, _, _, _, _, h => by simp only [Reps] at h; subst h; simp [Reps]
  | d :: ds, _, d', v', i, hr, h => by
    simp only [Reps] at h
    obtain ⟨v, vs', rfl, e2, e3⟩ := h
    cases i with
    | zero => simp only [List.set, Reps]; exact ⟨v', vs', rfl, hr, e3⟩
    | succ i => simp only [List.set, Reps]; exact ⟨v, vs'.set i v', rfl, e2, Reps.set i hr e3⟩
theorem Reps.take : ∀ {ds : List D} {vs : List V} (i : Nat), Reps K M ds vs → Reps K M (ds.take i) (vs.take i)
  | _, _, 0, _ => by simp [Reps]
  | [], _, i + 1, h => by simp only [Reps] at h; subst h; simp [Reps]
  | d :: ds, _, i + 1, h => by
    simp only [Reps] at h
    obtain ⟨v, vs', rfl, e2, e3⟩ := h
    simp only [List.take_succ_cons, Reps]
    exact ⟨v, _, rfl, e2, Reps.take i e3⟩
theorem Reps.drop : ∀ {ds : List D} {vs : List V} (i : Nat), Reps K M ds vs → Reps K M (ds.drop i) (vs.drop i)
  | _, _, 0, h => by simpa using h
  | [], _, i + 1, h => by simp only [Reps] at h; subst h; simp [Reps]
  | d :: ds, _, i + 1, h => by
    simp only [Reps] at h
    obtain ⟨v, vs', rfl, e2, e3⟩ := h
    simp only [List.drop_succ_cons]
    exact Reps.drop i e3
theorem Reps.eraseIdx : ∀ {ds : List D} {vs : List V} (i : Nat), Reps K M ds vs → Reps K M (ds.eraseIdx i) (vs.eraseIdx i)
  | [], _, _, h => by simp only [Reps] at h; subst h; simp [Reps]
  | d :: ds, _, i, h => by
    simp only [Reps] at h
    obtain ⟨v, vs', rfl, e2, e3⟩ := h
    cases i with
    | zero => simpa using e3
    | succ i => simp only [List.eraseIdx_cons_succ, Reps]; exact ⟨v, _, rfl, e2, Reps.eraseIdx i e3⟩
theorem Reps.ints : ∀ {ns : List Int} {vs : List V}, Reps K M (ns.map D.int) vs → vs = ns.map V.int
  | [], _, h => by simpa [Reps] using h
  | n :: ns, _, h => by
    simp only [List.map_cons, Reps] at h
    obtain ⟨v, vs', rfl, e2, e3⟩ := h
    simp only [Rep] at e2
    rw [e2, Reps.ints e3]
    rfl
theorem Reps.of_ints : ∀ {ns : List Int}, Reps K M (ns.map D.int) (ns.map V.int)
  | [] => by simp [Reps]
  | n :: ns => by
    simp only [List.map_cons, Reps]
    exact ⟨_, _, rfl, by simp [Rep], Reps.of_ints⟩
end
/-! ### slots, results -/
/-- a list (of one's own, or lent), a dict of one's own -/
inductive Kd where
  | l (b : Bool) | dict (ks : List Int)
  deriving Inhabited
inductive Sl where
  | val (d : D) | lv (fz : Kd) (ds : List D) | fn (k : Nat) (ds : List D)
  deriving Inhabited
abbrev Nv := List (Option Sl)
inductive R where
  | val (d : D) | own (ds : List D)
  deriving Inhabited
/-- an outcome: a value and the slots; an exception; nothing is known -/
inductive Rs (α : Type) where
  | ok (a : α) (e : Nv) | exc (c : Nat) (as : List D) (e : Nv) | stuck
def Rs.bind {α β : Type} : Rs α → (α → Nv → Rs β) → Rs β
  | .ok a e, f => f a e
  | .exc c as e, _ => .exc c as e
  | .stuck, _ => .stuck
/-- no exception may leave -/
def Rs.nox {α : Type} : Rs α → Rs α
  | .ok a e => .ok a e
  | _ => .stuck
def R.frz : R → D
  | .val d => d
  | .own ds => .lst ds
def Rs.of {α : Type} : Option α → Nv → Rs α
  | some a, e => .ok a e
  | none, _ => .stuck
/-- a lambda of the program -/
structure Lam where
  params : Arguments
  body : Expr
  scope : Scope
  qual : Str
  caps : List Str
/-- the tables of code objects, the lambdas -/
class Tb where
  tabs : List (Addr × Str)
  lam : Nat → Option Lam
variable [Tb]
def TbA (a : Addr) : Prop := ∃ p ∈ Tb.tabs, p.1 = a
/-- the own (mutable) addresses; the tables are so too -/
def Own (σ : L2.St) (e : Nv) (a : Addr) : Prop := (∃ (i : Nat) (fz : Kd) (ds : List D), e[i]? = some (some (.lv fz ds)) ∧ σ[i]? = some (some (.ref a))) ∨ TbA a
def LoR (K : PySem.W.Frag) (M : Hp) : Kd → List D → HO → Prop
  | .l _, ds, o => ∃ vs, o = .lst vs ∧ Reps K M ds vs
  | .dict ks, ds, o => ∃ vs, o = .dK (zk ks vs) ∧ ks.length = ds.length ∧ Reps K M ds vs
theorem LoR.mono {K : PySem.W.Frag} {M M' : Hp} (e : Same M M') : ∀ {f : Kd} {ds : List D} {o : HO}, LoR K M f ds o → LoR K M' f ds o
  | .l _, _, _, ⟨vs, h, r⟩ => ⟨vs, h, Reps.mono e r⟩
  | .dict _, _, _, ⟨vs, h, l, r⟩ => ⟨vs, h, l, Reps.mono e r⟩
/-- what a lambda captured -/
def CloR (M : Hp) (L : Lam) (clo : List (Str × Addr)) (vs : List V) : Prop := L.caps.length = vs.length ∧ (∀ y ∈ L.scope.names, y.2 = .free → y.1 ∈ L.caps) ∧ (∀ y c, clo.lookup y = some c → y ∈ L.caps) ∧ (∀ x y c, clo.lookup x = some c → clo.lookup y = some c → x = y) ∧
  ∀ (j : Nat) (y : Str) (v : V), L.caps[j]? = some y → vs[j]? = some v → ∃ (c : Addr) (ob : Obj) (u : Value), clo.lookup y = some c ∧ M c = some (.frz ob (.ext fun _ => True)) ∧ ob.data = .cell (some u) ∧ RelV v u
/-- a lambda's function object, what it captured -/
def FnR (K : PySem.W.Frag) (M : Hp) (k : Nat) (ds : List D) (v : V) : Prop := ∃ (L : Lam) (f c' : Addr) (pm ctv : Value) (clo : List (Str × Addr)) (vs : List V), Tb.lam k = some L ∧ v = .ref f ∧
  M f = some (.frz (PySem.W.kla_obj "<lambda>" L.qual L.params L.body L.scope clo pm c' ctv) (.ext fun _ => True)) ∧ M c' = some (LamX.CodeO c' L.qual) ∧ CloR M L clo vs ∧ Reps K M ds vs
theorem CloR.mono {M M' : Hp} (e : Same M M') {L : Lam} {clo : List (Str × Addr)} {vs : List V} (h : CloR M L clo vs) : CloR M' L clo vs := by
  obtain ⟨h1, h2, h3, h4, h5⟩ := h
  refine ⟨h1, h2, h3, h4, fun j y v a b => ?_⟩
  obtain ⟨c, ob, u, e1, e2, e3⟩ := h5 j y v a b
  exact ⟨c, ob, u, e1, e _ _ e2, e3⟩
theorem FnR.mono {K : PySem.W.Frag} {M M' : Hp} (e : Same M M') {k : Nat} {ds : List D} {v : V} (h : FnR K M k ds v) : FnR K M' k ds v := by
  obtain ⟨L, f, c', pm, ctv, clo, vs, h1, h2, h3, h4, h5, h6⟩ := h
  exact ⟨L, f, c', pm, ctv, clo, vs, h1, h2, e _ _ h3, e _ _ h4, h5.mono e, Reps.mono e h6⟩
def SlR (K : PySem.W.Frag) (M H : Hp) : Sl → V → Prop
  | .val d, v => Rep K M d v
  | .fn k ds, v => FnR K M k ds v
  | .lv f ds, v => ∃ a o, v = .ref a ∧ M a = none ∧ H a = some o ∧ LoR K M f ds o
/-- the table at P: each code object that it tells is known, and bears the name q -/
def TabM (M H : Hp) (P : Addr) (q : Str) : Prop := ∃ ps : Array Value, H P = some (.tbl ps) ∧ TriplesOk ps.toList ∧ ∀ (pos : Pos) (cv : Value), codeAmong pos ps.toList = some cv → ∃ c, cv = .ref c ∧ M c = some (LamX.CodeO c q)
theorem TabM.ext {M M' H H' : Hp} {P : Addr} {q : Str} (t : TabM M H P q) (mm : Same M M') (hh : ∀ ps, H P = some (.tbl ps) → H' P = some (.tbl ps)) : TabM M' H' P q := by
  obtain ⟨ps, h1, h2, h3⟩ := t
  refine ⟨ps, hh _ h1, h2, fun pos cv hc => ?_⟩
  obtain ⟨c, e1, e2⟩ := h3 pos cv hc
  exact ⟨c, e1, mm _ _ e2⟩
theorem TabM.nil {M H : Hp} {P : Addr} {q : Str} (h : H P = some (.tbl #[])) : TabM M H P q := ⟨#[], h, True.intro, fun pos cv hc => by
  have z : codeAmong pos [] = some cv := hc
  simp [codeAmong] at z⟩
structure StR (K : PySem.W.Frag) (M H : Hp) (σ : L2.St) (e : Nv) : Prop where
  ext : Same M H
  len : e.length = σ.length
  get : ∀ (i : Nat) (s : Sl), e[i]? = some (some s) → ∃ v, σ[i]? = some (some v) ∧ SlR K M H s v
  apart : ∀ (i j : Nat) (f g : Kd) (xs ys : List D) (v : V), e[i]? = some (some (.lv f xs)) → e[j]? = some (some (.lv g ys)) → σ[i]? = some (some v) → σ[j]? = some (some v) → i = j
  tb : ∀ p ∈ Tb.tabs, M p.1 = none ∧ TabM M H p.1 p.2
structure Step (M H : Hp) (O : Addr → Prop) (M' H' : Hp) (O' : Addr → Prop) : Prop where
  mm : Same M M'
  keep : ∀ a o, H a = some o → ¬ O a → H' a = some o
  own : ∀ a, O' a → O a ∨ H a = none
  dom : ∀ a, H' a = none → H a = none
  mnew : ∀ a o, M' a = some o → M a = some o ∨ O a ∨ H a = none
section
variable {K : PySem.W.Frag} {M H M1 H1 M2 H2 : Hp} {O O1 O2 O1' : Addr → Prop} {σ : L2.St} {nv : Nv}
theorem Step.refl (M H : Hp) (O : Addr → Prop) : Step M H O M H O := ⟨Same.refl _, fun _ _ h _ => h, fun _ h => .inl h, fun _ h => h, fun _ _ h => .inl h⟩
theorem Step.trans (a : Step M H O M1 H1 O1) (b : Step M1 H1 O1 M2 H2 O2) : Step M H O M2 H2 O2 :=
  ⟨a.mm.trans b.mm, fun x o h n => b.keep x o (a.keep x o h n) (fun z => (a.own x z).elim n fun z => by rw [h] at z; cases z), fun x h => (b.own x h).elim (fun z => a.own x z) fun z => .inr (a.dom x z), fun x h => a.dom x (b.dom x h),
    fun x o h => (b.mnew x o h).elim (fun z => a.mnew x o z) fun z => .inr (z.elim (fun z => a.own x z) fun z => .inr (a.dom x z))⟩
theorem Step.less (a : Step M H O M1 H1 O1) (h : ∀ x, O1' x → O1 x) : Step M H O M1 H1 O1' := ⟨a.mm, a.keep, fun x z => a.own x (h x z), a.dom, a.mnew⟩
/-- a result: data, or a new list that nobody else holds -/
def RR (K : PySem.W.Frag) (M H : Hp) (O : Addr → Prop) : R → V → Prop
  | .val d, v => Rep K M d v
  | .own ds, v => ∃ a vs, v = .ref a ∧ H a = some (.lst vs) ∧ M a = none ∧ ¬ O a ∧ Reps K M ds vs
def ResO : R → V → Addr → Prop
  | .val _, _, _ => False
  | .own _, v, a => v = .ref a
theorem LoR.ntbl {f : Kd} {ds : List D} {o : HO} (h : LoR K M f ds o) {ps : Array Value} : o ≠ .tbl ps := by
  cases f with
  | l b => obtain ⟨vs, rfl, _⟩ := h; exact fun z => nomatch z
  | dict ks => obtain ⟨vs, rfl, _⟩ := h; exact fun z => nomatch z
theorem StR.notTab (st : StR K M H σ nv) {a : Addr} {o : HO} (h : H a = some o) (n : ∀ ps, o ≠ .tbl ps) : ¬ TbA a := by
  rintro ⟨p, hp, rfl⟩
  obtain ⟨_, ps, h2, _⟩ := st.tb p hp
  rw [h2] at h
  cases h
  exact n _ rfl
/-- a thing that is no table and no code object changes -/
theorem tabS_upd {P : Addr} {q : Str} (h : TabM M H P q) {a : Addr} {o u : HO} (ha : H a = some o) (n1 : ∀ ps, o ≠ .tbl ps) (_n2 : ∀ φ, o ≠ .ext φ) : TabM M (upd H a u) P q :=
  h.ext (Same.refl _) fun ps h1 => by
    rw [upd_ne (fun z => by rw [z, ha] at h1; cases h1; exact n1 _ rfl)]
    exact h1
theorem LoR.next {f : Kd} {ds : List D} {o : HO} (h : LoR K M f ds o) {φ : Heap → Prop} : o ≠ .ext φ := by
  cases f with
  | l b => obtain ⟨vs, rfl, _⟩ := h; exact fun z => nomatch z
  | dict ks => obtain ⟨vs, rfl, _⟩ := h; exact fun z => nomatch z
theorem StR.own_at (st : StR K M H σ nv) {a : Addr} (h : Own σ nv a) : M a = none ∧ ∃ o, H a = some o := by
  rcases h with ⟨i, fz, ds, h1, h2⟩ | ⟨p, hp, rfl⟩
  case inr =>
    obtain ⟨h1, ps, h2, _⟩ := st.tb p hp
    exact ⟨h1, _, h2⟩
  obtain ⟨v, e1, e2⟩ := st.get i _ h1
  rw [h2] at e1
  obtain ⟨a', vs, e3, e4, e5, _⟩ := e2
  have : V.ref a = v := by injection e1 with e1; injection e1
  rw [← this] at e3
  injection e3 with e3
  subst e3
  exact ⟨e4, vs, e5⟩
/-- more heap: nothing own is changed, nothing own is known -/
theorem StR.grow (st : StR K M H σ nv) (mm : Same M M1) (hh : ∀ a o, H a = some o → H1 a = some o) (ext : Same M1 H1) (mn : ∀ a, Own σ nv a → M1 a = none) : StR K M1 H1 σ nv := by
  refine ⟨ext, st.len, fun i s h => ?_, st.apart, fun p hp => ⟨mn _ (.inr ⟨p, hp, rfl⟩), (st.tb p hp).2.ext mm fun _ h => hh _ _ h⟩⟩
  obtain ⟨v, e1, e2⟩ := st.get i s h
  refine ⟨v, e1, ?_⟩
  cases s with
  | val d => exact Rep.mono mm e2
  | fn k ds => exact FnR.mono mm e2
  | lv f ds =>
    obtain ⟨a, vs, rfl, e3, e4, e5⟩ := e2
    exact ⟨a, vs, rfl, mn a (.inl ⟨i, f, ds, h, e1⟩), hh _ _ e4, LoR.mono mm e5⟩
theorem same_upd {H : Hp} {p : Addr} {o : HO} (h : H p = none) : Same H (upd H p o) := fun b x e => by
  rw [upd_ne (ne_of_none e h)]
  exact e
/-- a new list is known from now on -/
theorem freeze {r : R} {v : V} (st : StR K M1 H1 σ nv) (rr : RR K M1 H1 (Own σ nv) r v) (s : Step M H O M1 H1 (fun a => Own σ nv a ∨ ResO r v a)) :
    ∃ M2, StR K M2 H1 σ nv ∧ Rep K M2 r.frz v ∧ Step M H O M2 H1 (Own σ nv) ∧ Same M1 M2 := by
  cases r with
  | val d => exact ⟨M1, st, rr, s.less fun x h => .inl h, Same.refl _⟩
  | own ds =>
    obtain ⟨a, vs, rfl, e1, e2, e3, e4⟩ := rr
    have sm : Same M1 (upd M1 a (.lst vs)) := same_upd e2
    refine ⟨upd M1 a (.lst vs), st.grow sm (fun _ _ h => h) (fun b o h => ?_) (fun b hb => ?_), ?_, ⟨s.mm.trans sm, s.keep, fun x h => s.own x (.inl h), s.dom, fun x o h => ?_⟩, sm⟩
    · by_cases hb : b = a
      · subst hb; rw [upd_same] at h; cases h; exact e1
      · rw [upd_ne hb] at h; exact st.ext _ _ h
    · have : b ≠ a := fun z => e3 (z ▸ hb)
      rw [upd_ne this]
      exact (st.own_at hb).1
    · simp only [R.frz, Rep]
      exact ⟨a, vs, rfl, upd_same, Reps.mono sm e4⟩
    · by_cases hb : x = a
      · subst hb
        exact .inr (s.own x (.inr rfl))
      · rw [upd_ne hb] at h; exact s.mnew x o h
end
end G
namespace G
noncomputable section
open PySem PySem.Spec PyProof.Rows L2
/-! ### the language -/
inductive T where
  | nm (i : Nat) | two (a b : T) | three (a b c : T) | nms (is : List Nat)
  deriving Inhabited
inductive P1 where
  | neg | len | abs | int | tupl | list | truth | isN | notN | isi (t : Nat) | sum | sumT | any | all | minL | maxL | maxT | minT | revL | lenSet | srtSet | ntr | tupRev | rgRev | srtD | srtTup | lenSetT | srtK | cdx (kvs : List (Str × List Str))
  deriving DecidableEq, Inhabited
inductive P2 where
  | add | sub | mul | fdiv | mod | pow | eq | ne | lt | le | gt | ge | inn | nin | ix | max | min | divm | dix | leL
  deriving DecidableEq, Inhabited
inductive Pm where
  | count | lidx | sidx | join | tidx | tcount | xidx | dgt
  deriving DecidableEq, Inhabited
inductive Ik where
  | seq | rng | zip | enum | rev | sq
  deriving DecidableEq, Inhabited
inductive Mt where
  | app | ext | pop | popi | rem | ins | rvs
  deriving DecidableEq, Inhabited
inductive E where
  | var (i : Nat) | mov (i : Nat) | brw (i : Nat)
  | non | bl (b : Bool) | int (i : Int) | str (s : Str)
  | op1 (p : P1) (a : E) | op2 (p : P2) (a b : E) | mop (p : Pm) (a b : E)
  | tup (es : List E) | lst (es : List E)
  | and_ (a b : E) | or_ (a b : E) | not_ (a : E) | ife (c a b : E)
  | slc (a lo hi : E)
  | call (f sh : Nat) (es : List E)
  | comp (t : T) (k : Ik) (es : List E) (cs : List E) (elt : E) (own : List Nat)
  | compB (t : T) (i : Nat) (cs : List E) (elt : E) (own : List Nat)
  | comp2 (t : T) (k : Ik) (es : List E) (t2 : T) (k2 : Ik) (es2 : List E) (elt : E) (own own2 : List Nat)
  | mth (m : Mt) (i : Nat) (es : List E)
  | star (a : E) | tupS (es : List E)
  | conv (tu : Bool) (k : Ik) (es : List E)
  | capp (i : Nat) (ks : List Nat) (es : List E) | callL (f : Nat) (es : List E) (k : Nat) (caps : List Nat) (fs : List E)
  deriving Inhabited
abbrev SZ : Nat := 16777216
/-! dicts of ints -/
def dget : List Int → List D → Int → Option D
  | k0 :: ks, d :: ds, k => if k0 = k then some d else dget ks ds k
  | _, _, _ => none
def dpR {α : Type} : List Int → List α → Int → α → List α
  | k0 :: ks, x :: xs, k, y => (if k0 = k then y else x) :: dpR ks xs k y
  | _, xs, _, _ => xs
def dkey (ks : List Int) (k : Int) : List Int := if k ∈ ks then ks else ks ++ [k]
def dput {α : Type} (ks : List Int) (ds : List α) (k : Int) (d : α) : List α := if k ∈ ks then dpR ks ds k d else ds ++ [d]
def b62 (i : Int) : Bool := decide (-4611686018427387904 ≤ i) && decide (i < 4611686018427387904)
/-! ### primitives -/
def pAdd : D → D → Option R
  | .int a, .int b => some (.val (.int (a + b)))
  | .str a, .str b => if a.length + b.length ≤ SZ then some (.val (.str (a ++ b))) else none
  | .tup a, .tup b => if a.length + b.length ≤ SZ then some (.val (.tup (a ++ b))) else none
  | .lst a, .lst b => if a.length + b.length ≤ SZ then some (.own (a ++ b)) else none
  | _, _ => none
def pSub : D → D → Option R
  | .int a, .int b => some (.val (.int (a - b)))
  | _, _ => none
def pMul : D → D → Option R
  | .int a, .int b => if (-(2 ^ 64) < a ∧ a < 2 ^ 64) ∨ (-(2 ^ 64) < b ∧ b < 2 ^ 64) then some (.val (.int (a * b))) else none
  | .lst a, .int k => if -(2 ^ 63) ≤ k ∧ k < 2 ^ 63 ∧ a.length * k.toNat ≤ SZ then some (.own (List.replicate k.toNat a).flatten) else none
  | .str z, .int k => if z.length ≤ 16 ∧ -(2 ^ 63) ≤ k ∧ k ≤ 1000000 then some (.val (.str (Txt.mul z k))) else none
  | .tup a, .int k => if k = 1 then some (.val (.tup a)) else if a.isEmpty = false ∧ 2 ≤ k ∧ k ≤ 1000 ∧ a.length ≤ 1000 then some (.val (.tup (List.replicate k.toNat a).flatten)) else none
  | _, _ => none
def pFdiv : D → D → Option R
  | .int a, .int b => if 0 < b ∧ b < 1073741824 then some (.val (.int (a / b))) else none
  | _, _ => none
def pMod : D → D → Option R
  | .int a, .int b => if 0 < b then some (.val (.int (a % b))) else none
  | _, _ => none
def pPow : D → D → Option R
  | .int a, .int b => if 0 ≤ b ∧ b ≤ 1000000 ∧ a.natAbs < 2 ^ 64 then some (.val (.int (a ^ b.toNat))) else none
  | _, _ => none
def intsD : List D → Option (List Int)
  | [] => some []
  | .int i :: ds => (intsD ds).map (i :: ·)
  | _ :: _ => none
/-- order of lists of numbers -/
def lexO (f : Int → Int → Bool) : List Int → List Int → Bool
  | [], [] => f 0 0
  | [], _ :: _ => f 0 1
  | _ :: _, [] => f 1 0
  | x :: xs, y :: ys => if x = y then lexO f xs ys else f x y
def pCmp (f : Int → Int → Bool) : D → D → Option R
  | .int a, .int b => some (.val (.bl (f a b)))
  | .tup xs, .tup ys => (intsD xs).bind fun ns => (intsD ys).map fun ms => .val (.bl (lexO f ns ms))
  | _, _ => none
/-- list(..) <= list(..) -/
def pLeL : D → D → Option R
  | .lst xs, .lst ys => (intsD xs).bind fun ns => (intsD ys).map fun ms => .val (.bl (lexO (fun a b => decide (a ≤ b)) ns ms))
  | _, _ => none
/-- == of flat things -/
def deq : D → D → Option Bool
  | .non, .non => some true | .non, .int _ => some false | .int _, .non => some false | .non, .bl _ => some false | .bl _, .non => some false
  | .non, .str _ => some false | .str _, .non => some false
  | .int a, .int b => some (decide (a = b)) | .bl a, .bl b => some (decide (a = b)) | .str a, .str b => some (decide (a = b))
  | .int _, .str _ => some false | .str _, .int _ => some false | .bl _, .str _ => some false | .str _, .bl _ => some false
  | _, _ => none
mutual
/-- as the library's data -/
def toPy : D → Option PyData
  | .non => some .none
  | .bl b => some (.bool b)
  | .int i => some (.int i)
  | .str z => some (.str z)
  | .tup xs => (toPys xs).map .tuple
  | .lst xs => (toPys xs).map .list
  | .scr _ => none
  | .dct _ _ => none
def toPys : List D → Option (List PyData)
  | [] => some []
  | d :: ds => match toPy d, toPys ds with
    | some x, some xs => some (x :: xs)
    | _, _ => none
end
/-- == of deep things -/
def deqD (a b : D) : Option Bool := match toPy a, toPy b with
  | some x, some y => if x.depth ≤ 64 then some (PyData.eqv x y) else none
  | _, _ => none
def eqD (a b : D) : Option Bool := match deq a b with
  | some k => some k
  | none => deqD a b
def pIx : D → D → Option R
  | .tup xs, .int i => (atI xs i).map .val
  | .lst xs, .int i => (atI xs i).map .val
  | .str z, .int i => if z.length ≤ SZ then (atI z.cps.toList i).map fun c => .val (.str ⟨#[c]⟩) else none
  | _, _ => none
def pMax : D → D → Option R
  | .int a, .int b => some (.val (.int (if b > a then b else a)))
  | _, _ => none
def pMin : D → D → Option R
  | .int a, .int b => some (.val (.int (if b < a then b else a)))
  | _, _ => none
def strsD : List D → Option (List Str)
  | [] => some []
  | .str i :: ds => (strsD ds).map (i :: ·)
  | _ :: _ => none
def blsD : List D → Option (List Bool)
  | [] => some []
  | .bl i :: ds => (blsD ds).map (i :: ·)
  | _ :: _ => none
/-- flat things: no parts -/
def flatD : D → Bool
  | .non => true | .bl _ => true | .int _ => true | .str _ => true | _ => false
/-- == of flat things -/
def eqF : D → D → Bool
  | .non, .non => true
  | .bl a, .bl b => a == b
  | .bl a, .int b => (if a then 1 else 0) == b
  | .int a, .bl b => a == (if b then 1 else 0)
  | .int a, .int b => a == b
  | .str a, .str b => a == b
  | _, _ => false
def pCount : D → D → Option R
  | .lst xs, y => if flatD y && xs.all flatD then some (.val (.int (xs.countP fun z => eqF z y : Nat))) else none
  | _, _ => none
/-- the first place of a flat thing -/
def pTidx : D → D → Option R
  | .tup xs, y => if flatD y && xs.all flatD then (xs.findIdx? fun z => eqF z y).map fun k => .val (.int (k : Nat)) else none
  | _, _ => none
/-- the first place in a list -/
def pXidx : D → D → Option R
  | .lst xs, y => if flatD y && xs.all flatD then (xs.findIdx? fun z => eqF z y).map fun k => .val (.int (k : Nat)) else none
  | _, _ => none
def pTcount : D → D → Option R
  | .tup xs, y => if flatD y && xs.all flatD then some (.val (.int (xs.countP fun z => eqF z y : Nat))) else none
  | _, _ => none
def pLidx : D → D → Option R
  | .tup xs, .int y => (intsD xs).bind fun ns => if y ∈ ns then some (.val (.int (ns.idxOf y : Nat))) else none
  | _, _ => none
/-- in, of deep things -/
def pInD (neg : Bool) (x : D) (xs : List D) : Option R := match toPy x, toPys xs with
  | some d, some ds => if d.depth ≤ 63 then some (.val (.bl (if neg then !(ds.any fun z => PyData.eqv z d) else ds.any fun z => PyData.eqv z d))) else none
  | _, _ => none
def pIn (neg : Bool) : D → D → Option R
  | x, .lst xs => if flatD x && xs.all flatD then some (.val (.bl (if neg then !(xs.any fun z => eqF z x) else xs.any fun z => eqF z x))) else pInD neg x xs
  | x, .tup xs => if flatD x && xs.all flatD then some (.val (.bl (if neg then !(xs.any fun z => eqF z x) else xs.any fun z => eqF z x))) else pInD neg x xs
  | _, _ => none
def pIndex : D → D → Option R
  | .str a, .str b => (Txt.index0 a b).map fun k => .val (.int (k : Nat))
  | _, _ => none
def pJoin : D → D → Option R
  | .str a, .lst xs => match strsD xs with
    | some ys => if (ys.map (·.length)).sum + ys.length * a.length ≤ SZ then some (.val (.str (Txt.join a ys))) else none
    | none => none
  | _, _ => none
def pDivm : D → D → Option R
  | .int a, .int b => if 0 < b ∧ b < 1073741824 then some (.val (.tup [.int (a / b), .int (a % b)])) else none
  | _, _ => none
/-- += and -= of numbers -/
def pAug : P2 → D → D → Option R
  | .add, .int a, .int b => some (.val (.int (a + b)))
  | .sub, .int a, .int b => some (.val (.int (a - b)))
  | _, _, _ => none
def p2 : P2 → D → D → Option R
  | .add => pAdd | .sub => pSub | .mul => pMul | .fdiv => pFdiv | .mod => pMod | .pow => pPow
  | .eq => fun a b => (eqD a b).map fun k => .val (.bl k)
  | .ne => fun a b => (eqD a b).map fun k => .val (.bl (!k))
  | .lt => pCmp fun a b => decide (a < b) | .le => pCmp fun a b => decide (a ≤ b) | .gt => pCmp fun a b => decide (b < a) | .ge => pCmp fun a b => decide (b ≤ a)
  | .ix => pIx | .max => pMax | .min => pMin
  | .inn => pIn false | .nin => pIn true
  | .divm => pDivm
  | .dix => fun | .dct ks ds, .int k => (dget ks ds k).map .val | _, _ => none
  | .leL => pLeL
def pm : Pm → D → D → Option R
  | .count => pCount | .lidx => pLidx | .sidx => pIndex | .join => pJoin | .tidx => pTidx | .tcount => pTcount | .xidx => pXidx
  | .dgt => fun | .dct ks ds, .int k => some (.val ((dget ks ds k).getD .non)) | _, _ => none
/-- of what kind the receiver is -/
def recv : Pm → D → Bool
  | .count, .lst _ => true | .lidx, .tup _ => true | .sidx, .str _ => true | .join, .str _ => true | .tidx, .tup _ => true | .tcount, .tup _ => true | .xidx, .lst _ => true | .dgt, .dct _ _ => true
  | _, _ => false
def pLen : D → Option R
  | .tup xs => some (.val (.int xs.length))
  | .lst xs => some (.val (.int xs.length))
  | .str z => if z.length ≤ SZ then some (.val (.int z.length)) else none
  | .scr ns => some (.val (.int ns.length))
  | _ => none
/-- the signs of a text, one by one -/
def chD (z : Str) : List D := z.cps.toList.map fun c => D.str ⟨#[c]⟩
def pList : D → Option R
  | .str z => if z.length ≤ SZ then some (.own (chD z)) else none
  | .tup xs => some (.own xs)
  | .lst xs => some (.own xs)
  | .scr ns => some (.own (ns.map .int))
  | _ => none
def pTupl : D → Option R
  | .tup xs => some (.val (.tup xs))
  | .lst xs => some (.val (.tup xs))
  | _ => none
/-- isinstance: 0 tuple, 1 bool, 2 str, 3 int -/
def pIsi : Nat → D → Option R
  | 0, .tup _ => some (.val (.bl true)) | 0, .lst _ => some (.val (.bl false)) | 0, .non => some (.val (.bl false)) | 0, .bl _ => some (.val (.bl false)) | 0, .int _ => some (.val (.bl false)) | 0, .str _ => some (.val (.bl false))
  | 1, .bl _ => some (.val (.bl true)) | 1, .tup _ => some (.val (.bl false)) | 1, .lst _ => some (.val (.bl false)) | 1, .non => some (.val (.bl false)) | 1, .int _ => some (.val (.bl false)) | 1, .str _ => some (.val (.bl false))
  | 2, .str _ => some (.val (.bl true)) | 2, .tup _ => some (.val (.bl false)) | 2, .lst _ => some (.val (.bl false)) | 2, .non => some (.val (.bl false)) | 2, .int _ => some (.val (.bl false)) | 2, .bl _ => some (.val (.bl false))
  | 3, .int _ => some (.val (.bl true)) | 3, .bl _ => some (.val (.bl true)) | 3, .tup _ => some (.val (.bl false)) | 3, .lst _ => some (.val (.bl false)) | 3, .non => some (.val (.bl false)) | 3, .str _ => some (.val (.bl false))
  | _, _ => none
/-- the first of equal ones alone -/
def ddI (ns : List Int) : List Int := ns.foldl (fun acc k => if acc.any (· == k) then acc else acc ++ [k]) []
/-- ascending, each once -/
def insI (k : Int) : List Int → List Int
  | [] => [k]
  | x :: xs => if k < x then k :: x :: xs else if k = x then x :: xs else x :: insI k xs
def downI (ns : List Int) : List Int := ns.mergeSort fun a b => decide (b ≤ a)
def sortI (ns : List Int) : List Int := ns.foldr insI []
/-- not x, by its truth -/
def pNtr : D → Option R
  | .non => some (.val (.bl true)) | .bl b => some (.val (.bl !b)) | .int i => some (.val (.bl !(i != 0)))
  | .tup xs => some (.val (.bl !!xs.isEmpty)) | .lst xs => some (.val (.bl !!xs.isEmpty)) | _ => none
/-- rows of numbers -/
def rowsD : List D → Option (List (List Int))
  | [] => some []
  | .tup xs :: ds => (intsD xs).bind fun ns => (rowsD ds).map (ns :: ·)
  | _ :: _ => none
def rowT (ns : List Int) : D := .tup (ns.map .int)
def sortL (nss : List (List Int)) : List (List Int) := nss.mergeSort fun a b => decide (a ≤ b)
/-- no row twice -/
def ddL : List (List Int) → List (List Int)
  | [] => []
  | x :: xs => if x ∈ xs then ddL xs else x :: ddL xs
/-- keys with their items -/
def pairsK : List D → Option (List (D × List Int))
  | [] => some []
  | .tup [.tup xs, d] :: ds => (intsD xs).bind fun ns => (pairsK ds).map ((d, ns) :: ·)
  | _ :: _ => none
def leD (p q : D × List Int) : Bool := decide (p.2 ≤ q.2)
def p1 : P1 → D → Option R
  | .srtK => fun | .lst ys => (pairsK ys).bind fun ps => if ps.all (fun p => !p.2.isEmpty) then some (.own ((ps.mergeSort leD).map (·.1))) else none | _ => none
  | .srtTup => fun | .lst xs => (rowsD xs).bind fun nss => if nss.all (fun ns => !ns.isEmpty) then some (.own ((sortL nss).map rowT)) else none | _ => none
  | .lenSetT => fun | .tup xs => (rowsD xs).bind fun nss => if nss.length < 64 then some (.val (.int (ddL nss).length)) else none | _ => none
  | .ntr => pNtr
  | .srtD => fun | .lst xs => (intsD xs).map fun ns => .own ((downI ns).map .int) | _ => none
  | .rgRev => fun | .int n => if 0 ≤ n ∧ n ≤ 16777216 then some (.val (.tup ((List.range n.toNat).map fun (k : Nat) => .int ((n - 1) + (k : Int) * (-1))))) else none | _ => none
  | .tupRev => fun | .lst xs => some (.val (.tup xs.reverse)) | .tup xs => some (.val (.tup xs.reverse)) | _ => none
  | .cdx kvs => fun | .str z => (kvs.lookup z).map fun ws => .val (.tup (ws.map .str)) | _ => none
  | .srtSet => fun | .tup xs => (intsD xs).bind fun ns => if ns.length < 64 then some (.own ((sortI ns).map .int)) else none | .lst xs => (intsD xs).bind fun ns => if ns.length < 64 then some (.own ((sortI ns).map .int)) else none | _ => none
  | .revL => fun | .lst xs => some (.own xs.reverse) | _ => none
  | .lenSet => fun | .lst xs => (intsD xs).bind fun ns => if ns.length ≤ 4000 then some (.val (.int (ddI ns).length)) else none | _ => none
  | .neg => fun | .int i => some (.val (.int (-i))) | _ => none
  | .len => pLen
  | .abs => fun | .int i => some (.val (.int (if i < 0 then -i else i))) | _ => none
  | .int => fun | .int i => some (.val (.int i)) | .bl b => some (.val (.int (if b then 1 else 0))) | .str z => if z.length ≤ 640 then (PySem.intText? z).map fun n => .val (.int n) else none | _ => none
  | .tupl => pTupl | .list => pList
  | .truth => fun
    | .non => some (.val (.bl false)) | .bl b => some (.val (.bl b)) | .int i => some (.val (.bl (i != 0)))
    | .str z => if z.length ≤ SZ then some (.val (.bl ((z.length : Int) != 0))) else none
    | .tup xs => some (.val (.bl !xs.isEmpty)) | .lst xs => some (.val (.bl !xs.isEmpty)) | _ => none
  | .isN => fun | .non => some (.val (.bl true)) | _ => some (.val (.bl false))
  | .notN => fun | .non => some (.val (.bl false)) | _ => some (.val (.bl true))
  | .isi t => pIsi t
  | .sum => fun | .lst xs => (intsD xs).map fun ns => .val (.int ns.sum) | .tup xs => (intsD xs).map fun ns => .val (.int ns.sum) | _ => none
  | .sumT => fun _ => none
  | .minL => fun | .lst xs => (intsD xs).bind fun ns => ns.min?.map fun m => .val (.int m) | _ => none
  | .maxL => fun | .lst xs => (intsD xs).bind fun ns => ns.max?.map fun m => .val (.int m) | _ => none
  | .maxT => fun | .tup xs => (intsD xs).bind fun ns => ns.max?.map fun m => .val (.int m) | .lst xs => (intsD xs).bind fun ns => ns.max?.map fun m => .val (.int m) | _ => none
  | .minT => fun | .tup xs => (intsD xs).bind fun ns => ns.min?.map fun m => .val (.int m) | .lst xs => (intsD xs).bind fun ns => ns.min?.map fun m => .val (.int m) | _ => none
  | .any => fun | .lst xs => (blsD xs).map fun ns => .val (.bl (ns.any id)) | _ => none
  | .all => fun | .lst xs => (blsD xs).map fun ns => .val (.bl (ns.all id)) | _ => none
def cutD (xs : List D) (lo hi : Option Int) : List D := (xs.drop (HT.sIx xs.length 0 lo)).take (HT.sIx xs.length xs.length hi - HT.sIx xs.length 0 lo)
def part : E → D → Option (Option Int)
  | .non, _ => some none
  | _, .int i => some (some i)
  | _, _ => none
def pSlc (a : D) (lo hi : Option Int) : Option R := match a with
  | .tup xs => some (.val (.tup (cutD xs lo hi)))
  | .lst xs => some (.own (cutD xs lo hi))
  | .str z => if z.length ≤ SZ then some (.val (.str (cutS z lo hi))) else none
  | _ => none
/-! ### slots -/
def look (nv : Nv) : D ⊕ Nat → Option D
  | .inl d => some d
  | .inr i => match nv[i]? with
    | some (some (.val d)) => some d
    | some (some (.lv (.l _) ds)) => some (.lst ds)
    | some (some (.lv (.dict ks) ds)) => some (.dct ks ds)
    | _ => none
def rdVar (i : Nat) (nv : Nv) : Rs R := match nv[i]? with
  | some (some (.val d)) => .ok (.val d) nv
  | some (some (.lv (.l true) ds)) => .ok (.val (.lst ds)) (nv.set i (some (.val (.lst ds))))
  | some (some (.lv (.dict ks) ds)) => .ok (.val (.dct ks ds)) (nv.set i (some (.val (.dct ks ds))))
  | _ => .stuck
def mvVar (i : Nat) (nv : Nv) : Rs R := match nv[i]? with
  | some (some (.val d)) => .ok (.val d) nv
  | some (some (.lv (.l true) ds)) => .ok (.own ds) (nv.set i none)
  | some (some (.lv (.dict ks) ds)) => .ok (.val (.dct ks ds)) (nv.set i (some (.val (.dct ks ds))))
  | _ => .stuck
def opd (a : E) (nv : Nv) (ra : Rs R) : Rs (D ⊕ Nat) := match a with
  | .var i => match nv[i]? with
    | some (some _) => .ok (.inr i) nv
    | _ => .stuck
  | _ => ra.bind fun r nv1 => .ok (.inl r.frz) nv1
def wipeN (nv : Nv) : List Nat → Nv
  | [] => nv
  | v :: vs => (wipeN nv vs).set v none
/-- the slots own as they stood in old -/
def back (old nv : Nv) : List Nat → Nv
  | [] => nv
  | v :: vs => (back old nv vs).set v (old[v]?.join)
def R.slot : R → Sl
  | .val d => .val d
  | .own ds => .lv (.l true) ds
/-- a store to a slot; a borrowed one is not stored over -/
def stSlot (i : Nat) (s : Sl) (nv : Nv) : Rs Unit := match nv[i]? with
  | some (some (.lv (.l false) _)) => .stuck
  | some _ => .ok () (nv.set i (some s))
  | none => .stuck
/-- stores to names in turn -/
def asgNs : List Nat → List D → Nv → Rs Unit
  | [], [], nv => .ok () nv
  | i :: is, d :: ds, nv => (stSlot i (.val d) nv).bind fun _ nv1 => asgNs is ds nv1
  | _, _, _ => .stuck
def asgD : T → D → Nv → Rs Unit
  | .nm i, d, nv => stSlot i (.val d) nv
  | .two a b, .tup [x, y], nv => (asgD a x nv).bind fun _ nv1 => asgD b y nv1
  | .three a b c, .tup [x, y, z], nv => (asgD a x nv).bind fun _ nv1 => (asgD b y nv1).bind fun _ nv2 => asgD c z nv2
  | .nms is, .tup ds, nv => asgNs is ds nv
  | _, _, _ => .stuck
def asgR (t : T) (r : R) (nv : Nv) : Rs Unit := match t with
  | .nm i => stSlot i r.slot nv
  | t => asgD t r.frz nv
def lstOf : D → Option (List D)
  | .tup xs => some xs
  | .lst xs => some xs
  | .scr ns => some (ns.map .int)
  | .str z => if z.length ≤ SZ then some (z.cps.toList.map fun c => .str ⟨#[c]⟩) else none
  | _ => none
/-- true: a tuple -/
def seqOf : D → Option (Bool × List D)
  | .tup xs => some (true, xs)
  | .lst xs => some (false, xs)
  | .scr ns => some (false, ns.map .int)
  | _ => none
def items : Ik → List (D ⊕ Nat) → Option (List D)
  | .seq, [.inl d] => lstOf d
  | .rng, [.inl (.int n)] => if b62 n then some ((List.range n.toNat).map fun k => .int (k : Nat)) else none
  | .rng, [.inl (.int a), .inl (.int b)] => if b62 a && b62 b then some ((List.range (b - a).toNat).map fun (k : Nat) => .int (a + k)) else none
  | .rng, [.inl (.int a), .inl (.int b), .inl (.int c)] => if b62 a && b62 b && decide (c = -1) then some ((List.range (a - b).toNat).map fun (k : Nat) => .int (a - k)) else none
  | .zip, [.inl a, .inl b] => match seqOf a, seqOf b with
    | some (_, xs), some (_, ys) => some ((xs.zip ys).map fun p => .tup [p.1, p.2])
    | _, _ => none
  | .enum, [.inl a] => match seqOf a with
    | some (_, xs) => some ((xs.zipIdx).map fun p => .tup [.int (p.2 : Nat), p.1])
    | none => none
  | .sq, [.inl a] => (seqOf a).map (·.2)
  | .rev, [.inl a] => match seqOf a with
    | some (_, xs) => some xs.reverse
    | none => none
  | _, _ => none
open Classical in
/-- the slot i is as it was -/
noncomputable def stayB (i : Nat) (nv nv1 : Nv) (o : Option D) : Rs (Option D) := if nv1[i]? = nv[i]? then .ok o nv1 else .stuck
def compLoop (turn : D → Nv → Rs (Option D)) : List D → List D → Nv → Rs (List D)
  | [], acc, nv => .ok acc nv
  | d :: ds, acc, nv => (turn d nv).bind fun o nv1 => match o with
    | some y => if acc.length < SZ then compLoop turn ds (acc ++ [y]) nv1 else .stuck
    | none => compLoop turn ds acc nv1
def comp2Loop (turn : D → List D → Nv → Rs (List D)) : List D → List D → Nv → Rs (List D)
  | [], acc, nv => .ok acc nv
  | d :: ds, acc, nv => (turn d acc nv).bind fun acc nv1 => comp2Loop turn ds acc nv1
/-- a called def: its result and the slots of its parameters behind it -/
inductive Cr where
  | ok (r : R) (outs : List Sl) | exc (c : Nat) (as : List D) (outs : List Sl) | stuck
abbrev Fn := Nat → List Sl → Cr
/-- how the written arguments come to the parameters -/
abbrev Shape := List (Nat ⊕ D)
def slotsOf (nv : Nv) : List (D ⊕ Nat) → Option (List Sl)
  | [] => some []
  | .inl d :: r => (slotsOf nv r).map (.val d :: ·)
  | .inr i :: r => match nv[i]? with
    | some (some (.val d)) => (slotsOf nv r).map (.val d :: ·)
    | some (some (.lv (.l _) ds)) => (slotsOf nv r).map (.lv (.l false) ds :: ·)
    | some (some (.fn k ds)) => (slotsOf nv r).map (.fn k ds :: ·)
    | _ => none
def brws : List (D ⊕ Nat) → List Nat
  | [] => []
  | .inl _ :: r => brws r
  | .inr i :: r => i :: brws r
def putBack (nv : Nv) : List (D ⊕ Nat) → List Sl → Option Nv
  | [], _ => some nv
  | .inl _ :: r, _ :: ss => putBack nv r ss
  | .inr i :: r, s :: ss => match putBack nv r ss, nv[i]?, s with
    | some nv1, some (some (.lv (.l f) _)), .lv (.l _) ds => some (nv1.set i (some (.lv (.l f) ds)))
    | some nv1, some (some (.val _)), _ => some nv1
    | some nv1, some (some (.fn _ _)), _ => some nv1
    | _, _, _ => none
  | _ :: _, [] => none
def arrO : Shape → List (D ⊕ Nat) → Option (List (D ⊕ Nat))
  | [], _ => some []
  | .inl j :: r, os => match os[j]?, arrO r os with
    | some o, some r' => some (o :: r')
    | _, _ => none
  | .inr d :: r, os => (arrO r os).map (.inl d :: ·)
/-- the call itself -/
def callOn (Φ : Fn) (f : Nat) (sh : Shape) (os : List (D ⊕ Nat)) (nv1 : Nv) : Rs R := match arrO sh os with
  | none => .stuck
  | some os' => match slotsOf nv1 os' with
    | none => .stuck
    | some ss => if (brws os').Nodup then match Φ f ss with
      | .ok r outs => match putBack nv1 os' outs with
        | some nv2 => .ok r nv2
        | none => .stuck
      | .exc c as outs => match putBack nv1 os' outs with
        | some nv2 => .exc c as nv2
        | none => .stuck
      | .stuck => .stuck
      else .stuck
def mthD (m : Mt) (xs : List D) : List D → Option (D × List D)
  | args => match m, args with
    | .app, [y] => if xs.length < SZ then some (.non, xs ++ [y]) else none
    | .ext, [.lst ys] => if xs.length + ys.length ≤ SZ then some (.non, xs ++ ys) else none
    | .pop, [] => match xs[xs.length - 1]? with
      | some y => some (y, xs.dropLast)
      | none => none
    | .popi, [.int i] => if -(2 ^ 63) ≤ i ∧ i < 2 ^ 63 then match ixN xs.length i with
      | some k => match xs[k]? with
        | some y => some (y, xs.eraseIdx k)
        | none => none
      | none => none else none
    | .rvs, [] => some (.non, xs.reverse)
    | .ins, [.int i, y] => if xs.length < SZ ∧ 0 ≤ i ∧ i < 2 ^ 63 then some (.non, xs.take i.toNat ++ [y] ++ xs.drop i.toNat) else none
    | .rem, [.int k] => match intsD xs with
      | some ns => match ns.findIdx? fun n => decide (n = k) with
        | some j => some (.non, xs.eraseIdx j)
        | none => none
      | none => none
    | _, _ => none
def inls : List (D ⊕ Nat) → Option (List D)
  | [] => some []
  | .inl d :: r => (inls r).map (d :: ·)
  | .inr _ :: _ => none
def argStep (e : E) (nv : Nv) (re : Rs R) (rest : Nv → Rs (List (D ⊕ Nat))) : Rs (List (D ⊕ Nat)) := match e with
  | .brw i => match nv[i]? with
    | some (some _) => (rest nv).bind fun os nv1 => .ok (.inr i :: os) nv1
    | _ => .stuck
  | _ => re.bind fun r nv1 => (rest nv1).bind fun os nv2 => .ok (.inl r.frz :: os) nv2
/-- an element of a display; a starred one stands for its items -/
def splice : E → D → Option (List D)
  | .star _, .tup ds => some ds
  | .star _, .lst ds => some ds
  | .star _, _ => none
  | _, d => some [d]
def tsStep (e : E) (re : Rs R) (rest : Nv → Rs (List D)) : Rs (List D) := re.bind fun r nv1 => match splice e r.frz with
  | none => .stuck
  | some ds => (rest nv1).bind fun ds2 nv2 => .ok (ds ++ ds2) nv2
/-- a method that changes the list of slot i -/
def mthOn (m : Mt) (i : Nat) (nv : Nv) (re : Rs (List (D ⊕ Nat))) : Rs R := match nv[i]? with
  | some (some (.lv (.l _) _)) => re.bind fun os nv1 => match inls os, nv1[i]? with
    | some ds, some (some (.lv (.l f) xs)) => match mthD m xs ds with
      | some (y, ys) => .ok (.val y) (nv1.set i (some (.lv (.l f) ys)))
      | none => .stuck
    | _, _ => .stuck
  | _ => .stuck
/-- list(..), tuple(..) of what is walked -/
def convOn (tu : Bool) (k : Ik) (os : List (D ⊕ Nat)) (nv : Nv) : Rs R := match items k os with
  | none => .stuck
  | some xs => if xs.length ≤ SZ then .ok (if tu = true then .val (.tup xs) else .own xs) nv else .stuck
/-- what a lambda captures -/
def capsD (nv : Nv) : List Nat → Option (List D)
  | [] => some []
  | i :: is => match nv[i]? with
    | some (some (.val d)) => (capsD nv is).map (d :: ·)
    | _ => none
/-- a lambda's body, run on its arguments and on what it captured -/
def cappOn (Φ : Fn) (k : Nat) (ds : List D) (nv : Nv) : Rs R := match Φ k (ds.map .val) with
  | .ok r _ => .ok r nv
  | _ => .stuck
/-- a call with a lambda among its arguments -/
def callLOn (Φ : Fn) (f k : Nat) (as bs cs : Option (List D)) (nv : Nv) : Rs R := match as, bs, cs with
  | some ds, some ds2, some cs => match Φ f (ds.map .val ++ .fn k cs :: ds2.map .val) with
    | .ok r _ => .ok r nv
    | _ => .stuck
  | _, _, _ => .stuck
section
variable (Φ : Fn) (shs : Nat → Nat → Shape)
mutual
def evE : E → Nv → Rs R
  | .var i, nv => rdVar i nv
  | .mov i, nv => mvVar i nv
  | .brw _, _ => .stuck
  | .non, nv => .ok (.val .non) nv
  | .bl b, nv => .ok (.val (.bl b)) nv
  | .int i, nv => .ok (.val (.int i)) nv
  | .str s, nv => .ok (.val (.str s)) nv
  | .op1 p a, nv => (opd a nv (evE a nv)).bind fun x nv1 => Rs.of ((look nv1 x).bind (p1 p)) nv1
  | .op2 p a b, nv => (opd a nv (evE a nv)).bind fun x nv1 => (opd b nv1 (evE b nv1)).bind fun y nv2 =>
    Rs.of ((look nv2 x).bind fun d => (look nv2 y).bind fun e => p2 p d e) nv2
  | .mop p a b, nv => (opd a nv (evE a nv)).bind fun x nv1 => match look nv1 x with
    | none => .stuck
    | some d0 => if recv p d0 = true then (opd b nv1 (evE b nv1)).bind fun y nv2 =>
        Rs.of ((look nv2 x).bind fun d => (look nv2 y).bind fun e => pm p d e) nv2
      else .stuck
  | .tup es, nv => (evOs es nv).bind fun os nv1 => Rs.of ((inls os).bind fun ds => if ds.length ≤ SZ then some (.val (.tup ds)) else none) nv1
  | .lst es, nv => (evOs es nv).bind fun os nv1 => Rs.of ((inls os).bind fun ds => if ds.length ≤ SZ then some (.own ds) else none) nv1
  | .and_ a b, nv => (evE a nv).bind fun r nv1 => match r with
    | .val (.bl true) => evE b nv1
    | .val (.bl false) => .ok (.val (.bl false)) nv1
    | _ => .stuck
  | .or_ a b, nv => (evE a nv).bind fun r nv1 => match r with
    | .val (.bl true) => .ok (.val (.bl true)) nv1
    | .val (.bl false) => evE b nv1
    | _ => .stuck
  | .not_ a, nv => (evE a nv).bind fun r nv1 => match r with
    | .val (.bl k) => .ok (.val (.bl (!k))) nv1
    | _ => .stuck
  | .ife c a b, nv => (evE c nv).bind fun r nv1 => match r with
    | .val (.bl true) => evE a nv1
    | .val (.bl false) => evE b nv1
    | _ => .stuck
  | .slc a lo hi, nv => (opd a nv (evE a nv)).bind fun x nv1 => (evE lo nv1).bind fun l nv2 => match part lo l.frz with
    | none => .stuck
    | some l => (evE hi nv2).bind fun h nv3 => match part hi h.frz with
      | none => .stuck
      | some h => Rs.of ((look nv3 x).bind fun d => pSlc d l h) nv3
  | .call f sh es, nv => (evOs es nv).bind fun os nv1 => callOn Φ f (shs f sh) os nv1
  | .comp t k es cs elt own, nv => (evOs es nv).bind fun os nv1 => match items k os with
    | none => .stuck
    | some xs => (compLoop (fun d nv => (asgD t d nv).bind fun _ nv2 => (evCs cs nv2).bind fun b nv3 =>
        if b = true then (evE elt nv3).bind fun r nv4 => .ok (some r.frz) (wipeN nv4 own) else .ok none (wipeN nv3 own)) xs [] (wipeN nv1 own)).nox.bind fun ys nv5 => .ok (.own ys) (back nv1 nv5 own)
  | .compB t i cs elt own, nv => match nv[i]? with
    | some (some (.lv (.l _) xs)) => (compLoop (fun d nv' => ((asgD t d nv').bind fun _ nv2 => (evCs cs nv2).bind fun b nv3 =>
        if b = true then (evE elt nv3).bind fun r nv4 => .ok (some r.frz) (wipeN nv4 own) else .ok none (wipeN nv3 own)).bind fun o nv5 => stayB i nv nv5 o) xs [] (wipeN nv own)).nox.bind fun ys nv5 => .ok (.own ys) (back nv nv5 own)
    | _ => .stuck
  | .comp2 t k es t2 k2 es2 elt own own2, nv => (evOs es nv).bind fun os nv1 => match items k os with
    | none => .stuck
    | some xs => (comp2Loop (fun d acc nv => (asgD t d nv).bind fun _ nv2 => (evOs es2 nv2).bind fun os2 nv3 => match items k2 os2 with
        | none => .stuck
        | some ys => (compLoop (fun d nv => (asgD t2 d nv).bind fun _ nv2 => (evE elt nv2).bind fun r nv4 => .ok (some r.frz) (wipeN nv4 own2)) ys acc (wipeN nv3 own2)).bind fun acc nv5 => .ok acc (wipeN nv5 own)) xs [] (wipeN nv1 own)).nox.bind fun ys nv5 => .ok (.own ys) (back nv1 nv5 own)
  | .mth m i es, nv => mthOn m i nv (evOs es nv)
  | .conv tu k es, nv => (evOs es nv).bind fun os nv1 => convOn tu k os nv1
  | .capp i ks es, nv => match nv[i]? with
    | some (some (.fn k cs)) => if k ∈ ks then (evOs es nv).bind fun os nv1 => match inls os with
      | some ds => cappOn Φ k (ds ++ cs) nv1
      | none => .stuck
      else .stuck
    | _ => .stuck
  | .callL f es k caps fs, nv => (evOs es nv).bind fun os nv1 => (evOs fs nv1).bind fun os2 nv2 => callLOn Φ f k (inls os) (inls os2) (capsD nv2 caps) nv2
  | .star a, nv => evE a nv
  | .tupS es, nv => (evTs es nv).bind fun ds nv1 => Rs.of (if ds.length ≤ SZ then some (.val (.tup ds)) else none) nv1
def evTs : List E → Nv → Rs (List D)
  | [], nv => .ok [] nv
  | e :: es, nv => tsStep e (evE e nv) (evTs es)
def evOs : List E → Nv → Rs (List (D ⊕ Nat))
  | [], nv => .ok [] nv
  | e :: es, nv => argStep e nv (evE e nv) (evOs es)
/-- all tests -/
def evCs : List E → Nv → Rs Bool
  | [], nv => .ok true nv
  | e :: es, nv => (evE e nv).bind fun r nv1 => match r with
    | .val (.bl true) => evCs es nv1
    | .val (.bl false) => .ok false nv1
    | _ => .stuck
end
end
/-! ### statements -/
inductive S where
  | asg (t : T) (e : E) | expr (e : E) | ife (c : E) (a b : List S) | for_ (t : T) (k : Ik) (es : List E) (body : List S) | whl (c : E) (body : List S)
  | ret (e : E) | retN | pas | brk | cnt | aug (i : Nat) (p : P2) (e : E) | sti (i : Nat) (ix e : E) | dnew (i : Nat) | dst (i : Nat) (ix e : E) | augi (i : Nat) (p : P2) (ix e : E) | par (i j : Nat) (a b : E)
  | rse (c : Nat) | try1 (body : List S) (c : Nat) (suite : List S) | tryR (e : E) (c i : Nat)
  | kill (is : List Nat) | frz (i : Nat) | forB (t : T) (i : Nat) (body : List S)
  deriving Inhabited
inductive Fl where
  | nx | brk | cnt | ret (r : R)
open Classical in
/-- the slot i is as it was -/
noncomputable def stayF (i : Nat) (nv nv1 : Nv) (f : Fl) : Rs Fl := if nv1[i]? = nv[i]? then .ok f nv1 else .stuck
def forLoop (body : D → Nv → Rs Fl) : List D → Nv → Rs Fl
  | [], nv => .ok .nx nv
  | d :: ds, nv => (body d nv).bind fun f nv1 => match f with
    | .nx => forLoop body ds nv1
    | .cnt => forLoop body ds nv1
    | .brk => .ok .nx nv1
    | .ret r => .ok (.ret r) nv1
def whlLoop (test : Nv → Rs R) (body : Nv → Rs Fl) : Nat → Nv → Rs Fl
  | 0, _ => .stuck
  | n + 1, nv => (test nv).bind fun r nv1 => match r with
    | .val (.bl false) => .ok .nx nv1
    | .val (.bl true) => (body nv1).bind fun f nv2 => match f with
      | .nx => whlLoop test body n nv2
      | .cnt => whlLoop test body n nv2
      | .brk => .ok .nx nv2
      | .ret r => .ok (.ret r) nv2
    | _ => .stuck
def augIx (i : Nat) (k : D) (nv : Nv) : Rs D := match nv[i]?, k with
  | some (some (.lv (.l _) xs)), .int k => match atI xs k with
    | some d => .ok d nv
    | none => .stuck
  | _, _ => .stuck
/-- a store to a dict -/
def stDk (i : Nat) (ix d : D) (nv : Nv) : Rs Unit := match nv[i]?, ix with
  | some (some (.lv (.dict ks) ds)), .int k => if ds.length < SZ then .ok () (nv.set i (some (.lv (.dict (dkey ks k)) (dput ks ds k d)))) else .stuck
  | _, _ => .stuck
def stIx (i : Nat) (ix d : D) (nv : Nv) : Rs Unit := match nv[i]?, ix with
  | some (some (.lv (.l f) xs)), .int k => match ixN xs.length k with
    | some j => .ok () (nv.set i (some (.lv (.l f) (xs.set j d))))
    | none => .stuck
  | _, _ => .stuck
section
variable (Φ : Fn) (shs : Nat → Nat → Shape)
mutual
def evS : S → Nv → Rs Fl
  | .asg t e, nv => (evE Φ shs e nv).bind fun r nv1 => (asgR t r nv1).bind fun _ nv2 => .ok .nx nv2
  | .expr e, nv => (evE Φ shs e nv).bind fun _ nv1 => .ok .nx nv1
  | .ife c a b, nv => (evE Φ shs c nv).bind fun r nv1 => match r with
    | .val (.bl true) => evB a nv1
    | .val (.bl false) => evB b nv1
    | _ => .stuck
  | .for_ t k es body, nv => (evOs Φ shs es nv).bind fun os nv1 => match items k os with
    | none => .stuck
    | some xs => forLoop (fun d nv => (asgD t d nv).bind fun _ nv2 => evB body nv2) xs nv1
  | .forB t i body, nv => match nv[i]? with
    | some (some (.lv (.l _) xs)) => forLoop (fun d nv' => ((asgD t d nv').bind fun _ nv2 => evB body nv2).bind fun f nv3 => stayF i nv nv3 f) xs nv
    | _ => .stuck
  | .whl c body, nv => whlLoop (evE Φ shs c) (evB body) 1000000 nv
  | .ret e, nv => (evE Φ shs e nv).bind fun r nv1 => .ok (.ret r) nv1
  | .retN, nv => .ok (.ret (.val .non)) nv
  | .pas, nv => .ok .nx nv
  | .brk, nv => .ok .brk nv
  | .cnt, nv => .ok .cnt nv
  | .aug i p e, nv => match nv[i]? with
    | some (some (.val d)) => (evE Φ shs e nv).bind fun r nv1 => (Rs.of (pAug p d r.frz) nv1).bind fun r2 nv2 => (stSlot i r2.slot nv2).bind fun _ nv3 => .ok .nx nv3
    | _ => .stuck
  | .sti i ix e, nv => (evE Φ shs e nv).bind fun r nv1 => match nv1[i]? with
    | some (some (.lv (.l _) _)) => (evE Φ shs ix nv1).bind fun k nv2 => (stIx i k.frz r.frz nv2).bind fun _ nv3 => .ok .nx nv3
    | _ => .stuck
  | .dnew i, nv => (stSlot i (.lv (.dict []) []) nv).bind fun _ nv1 => .ok .nx nv1
  | .dst i ix e, nv => (evE Φ shs e nv).bind fun r nv1 => match nv1[i]? with
    | some (some (.lv (.dict _) _)) => (evE Φ shs ix nv1).bind fun k nv2 => (stDk i k.frz r.frz nv2).bind fun _ nv3 => .ok .nx nv3
    | _ => .stuck
  | .augi i p ix e, nv => match nv[i]? with
    | some (some (.lv (.l _) _)) => (evE Φ shs ix nv).bind fun k nv1 => (augIx i k.frz nv1).bind fun old nv2 => (evE Φ shs e nv2).bind fun r nv3 => (Rs.of (pAug p old r.frz) nv3).bind fun r2 nv4 => (stIx i k.frz r2.frz nv4).bind fun _ nv5 => .ok .nx nv5
    | _ => .stuck
  | .par i j a b, nv => (evE Φ shs a nv).bind fun x nv1 => (evE Φ shs b nv1).bind fun y nv2 => (stSlot j y.slot nv2).bind fun _ nv3 => (stSlot i x.slot nv3).bind fun _ nv4 => .ok .nx nv4
  | .rse c, nv => .exc c [] nv
  | .try1 body c suite, nv => match evB body nv with
    | .exc c' _ nv1 => if c = c' then evB suite nv1 else .stuck
    | r => r
  | .tryR e c i, nv => match evE Φ shs e nv with
    | .ok _ nv1 => .ok .nx nv1
    | .exc c' _ nv1 => if c' = c then .ok (.ret (.val (.bl true))) (wipeN nv1 [i]) else .stuck
    | .stuck => .stuck
  | .kill is, nv => .ok .nx (wipeN nv is)
  | .frz i, nv => (rdVar i nv).bind fun _ nv1 => .ok .nx nv1
def evB : List S → Nv → Rs Fl
  | [], nv => .ok .nx nv
  | s :: ss, nv => (evS s nv).bind fun f nv1 => match f with
    | .nx => evB ss nv1
    | f => .ok f nv1
end
/-- a def: how many slots, which parameters may be lent (they are never stored over), the body -/
structure Df where
  n : Nat
  pr : List Nat
  body : List S
def lentOk (pr : List Nat) (ss : List Sl) : Bool := (List.range ss.length).all fun p => match ss[p]? with
  | some (.lv _ _) => pr.contains p
  | _ => true
def outsOf (pr : List Nat) (ss : List Sl) (nv : Nv) : Option (List Sl) := (List.range ss.length).mapM fun p => if pr.contains p = true then nv[p]?.join else ss[p]?
def endDf (pr : List Nat) (ss : List Sl) : Rs Fl → Cr
  | .ok (.ret r) nv => match outsOf pr ss nv with
    | some outs => .ok r outs
    | none => .stuck
  | .ok .nx nv => match outsOf pr ss nv with
    | some outs => .ok (.val .non) outs
    | none => .stuck
  | .exc c as nv => match outsOf pr ss nv with
    | some outs => .exc c as outs
    | none => .stuck
  | _ => .stuck
def startNv (n : Nat) (ss : List Sl) : Nv := ss.map some ++ List.replicate (n - ss.length) none
def runDf (d : Df) (ss : List Sl) : Cr := if lentOk d.pr ss = true then endDf d.pr ss (evB Φ shs d.body (startNv d.n ss)) else .stuck
end
/-- all defs, to a depth -/
def calls (ds : List Df) (shs : Nat → Nat → Shape) : Nat → Fn
  | 0, _, _ => .stuck
  | n + 1, f, ss => match ds[f]? with
    | some d => runDf (calls ds shs n) shs d ss
    | none => .stuck
end
end G
namespace G
open PySem PySem.Spec PyProof.Rows L2
variable [Tb]
/-- where a body runs -/
structure Cfg where
  P : Program
  w : World
  K : PySem.W.Frag
  mg : Str → Option Value
  base : Heap
  N : List Str
  sc : Scope
  st : Str → Bool
  k : Nat
  exA : Nat → Option Addr
  pr : List Nat
  cd : Option (Value × Str) := none
structure AtE (C : Cfg) (W : WX) (X : Cx) : Prop where
  prog : X.prog = C.P
  w : X.w = C.w
  K : X.K = C.K
  mg : X.mg = C.mg
  base : X.base = C.base
  N : X.N = C.N
  sc : X.env.scope = C.sc
  calm : X.calm = true
  room : Room (C.k + 1) X.A
  nd : X.N.Nodup
  tk : Takes X W
  fn : ∀ x, C.st x = true → Loc X.env.scope x ∧ (X.fn x = true ∨ X.env.scope.names.lookup x = some .local)
  cd : ∀ q, C.cd = some q → X.env.code = q.1 ∧ X.env.qual = q.2
section
variable {C : Cfg} {W : WX} {X : Cx}
structure tE (C : Cfg) (W : WX) (x : Expr)  (σ : L2.St) (H : Hp) (Q : VK) : Prop where
  un : ∀ X, AtE C W X → ∀ pins s, Inv X pins σ H s → wpAny (model X.prog X.w) X.A (eval x X.env) (EP X pins σ Q) X.xe s
structure tT (C : Cfg) (W : WX) (x : Expr)  (σ : L2.St) (H : Hp) (Q : Bool → Hp → Prop) : Prop where
  un : ∀ X, AtE C W X → ∀ pins s, Inv X pins σ H s → wpAny (model X.prog X.w) X.A (isTrue x X.env (eval x X.env)) (TP X pins σ Q) X.xe s
structure tA (C : Cfg) (W : WX) (xs : List Expr)  (σ : L2.St) (H : Hp) (Q : List V → Hp → Prop) : Prop where
  un : ∀ X, AtE C W X → ∀ pos pins s, Inv X pins σ H s → wpAny (model X.prog X.w) X.A (spliced (backTo pos (starEach xs X.env))) (AP X pins σ Q) X.xe s
theorem PEo (h : AtE C W X) (x : Expr) : PE X x (tE C W x) := ⟨fun pins s σ H Q I t => t.un X h pins s I⟩
theorem PTo (h : AtE C W X) (x : Expr) : PT X x (tT C W x) := ⟨fun pins s σ H Q I t => t.un X h pins s I⟩
theorem PAo (h : AtE C W X) (x : List Expr) : PA X x (tA C W x) := ⟨fun pos pins s σ H Q I t => t.un X h pos pins s I⟩
theorem tE.by {x : Expr} {t : TE} {σ : L2.St} {H : Hp} {Q : VK} (pe : ∀ X, AtE C W X → PE X x t) (h : t σ H Q) : tE C W x σ H Q := ⟨fun X hX pins s I => (pe X hX).run pins s σ H Q I h⟩
theorem tT.by {x : Expr} {t : TT} {σ : L2.St} {H : Hp} {Q : Bool → Hp → Prop} (pe : ∀ X, AtE C W X → PT X x t) (h : t σ H Q) : tT C W x σ H Q := ⟨fun X hX pins s I => (pe X hX).run pins s σ H Q I h⟩
theorem tA.by {x : List Expr} {t : TA} {σ : L2.St} {H : Hp} {Q : List V → Hp → Prop} (pe : ∀ X, AtE C W X → PA X x t) (h : t σ H Q) : tA C W x σ H Q := ⟨fun X hX pos pins s I => (pe X hX).run pos pins s σ H Q I h⟩
def ExR (C : Cfg) (c : Nat) (as : List D) (cls : Value) (d : Option Addr) (H : Hp) : Prop := ∃ a, C.exA c = some a ∧ cls = .ref a ∧ d = none ∧ as = []
/-- behind an evaluation -/
def DoneE (C : Cfg) (W : WX) (M H : Hp) (σ : L2.St) (nv : Nv) (res : Rs R) (Q : VK) : Prop := match res with
  | .ok r nv' => ∀ v M' H', Step M H (Own σ nv) M' H' (fun a => Own σ nv' a ∨ ResO r v a) → StR C.K M' H' σ nv' → RR C.K M' H' (Own σ nv') r v → Q v H'
  | .exc c as nv' => ∀ cls d M' H', Step M H (Own σ nv) M' H' (Own σ nv') → StR C.K M' H' σ nv' → ExR C c as cls d H' → W cls d σ H'
  | .stuck => False
def DoneX {α : Type} (C : Cfg) (W : WX) (M H : Hp) (σ : L2.St) (nv : Nv) (res : Rs α) (post : α → Nv → Hp → Hp → Prop) : Prop := match res with
  | .ok a nv' => ∀ M' H', Step M H (Own σ nv) M' H' (Own σ nv') → StR C.K M' H' σ nv' → post a nv' M' H'
  | .exc c as nv' => ∀ cls d M' H', Step M H (Own σ nv) M' H' (Own σ nv') → StR C.K M' H' σ nv' → ExR C c as cls d H' → W cls d σ H'
  | .stuck => False
variable {M H M1 H1 : Hp} {σ : L2.St} {nv nv1 : Nv}
theorem DoneE.later {res : Rs R} {Q : VK} (h : DoneE C W M H σ nv res Q) (s : Step M H (Own σ nv) M1 H1 (Own σ nv1)) : DoneE C W M1 H1 σ nv1 res Q := by
  cases res with
  | ok r nv' => exact fun v M' H' s' => h v M' H' (s.trans s')
  | exc c as nv' => exact fun cls d M' H' s' => h cls d M' H' (s.trans s')
  | stuck => exact h
theorem DoneX.later {α : Type} {res : Rs α} {post : α → Nv → Hp → Hp → Prop} (h : DoneX C W M H σ nv res post) (s : Step M H (Own σ nv) M1 H1 (Own σ nv1)) : DoneX C W M1 H1 σ nv1 res post := by
  cases res with
  | ok r nv' => exact fun M' H' s' => h M' H' (s.trans s')
  | exc c as nv' => exact fun cls d M' H' s' => h cls d M' H' (s.trans s')
  | stuck => exact h
theorem DoneX.imp {α : Type} {res : Rs α} {post post' : α → Nv → Hp → Hp → Prop} (h : DoneX C W M H σ nv res post) (k : ∀ a nv' M' H', Step M H (Own σ nv) M' H' (Own σ nv') → StR C.K M' H' σ nv' → post a nv' M' H' → post' a nv' M' H') : DoneX C W M H σ nv res post' := by
  cases res with
  | ok r nv' => exact fun M' H' s' st => k _ _ _ _ s' st (h M' H' s' st)
  | exc c as nv' => exact h
  | stuck => exact h
def SndE (C : Cfg) (W : WX) (x : Expr) (f : Nv → Rs R) : Prop := ∀ M H σ nv Q, StR C.K M H σ nv → DoneE C W M H σ nv (f nv) Q → tE C W x σ H Q
/-- first x, frozen, then what g says -/
theorem SndE.then {x : Expr} {f : Nv → Rs R} {α : Type} {g : R → Nv → Rs α} {post : α → Nv → Hp → Hp → Prop} {Q : VK} (h : SndE C W x f) (st : StR C.K M H σ nv) (hd : DoneX C W M H σ nv ((f nv).bind g) post)
    (k : ∀ r nv1 v M1 H1, f nv = .ok r nv1 → StR C.K M1 H1 σ nv1 → Rep C.K M1 r.frz v → Step M H (Own σ nv) M1 H1 (Own σ nv1) → DoneX C W M1 H1 σ nv1 (g r nv1) post → Q v H1) : tE C W x σ H Q := by
  refine h M H σ nv Q st ?_
  cases e : f nv with
  | ok r nv1 =>
    rw [e] at hd
    intro v M' H' s st' rr
    obtain ⟨M2, st2, rp, s2, _⟩ := freeze st' rr s
    exact k r nv1 v M2 H' e st2 rp s2 (DoneX.later hd s2)
  | exc c as nv1 => rw [e] at hd; exact hd
  | stuck => rw [e] at hd; exact hd.elim
theorem SndE.thenE {x : Expr} {f : Nv → Rs R} {g : R → Nv → Rs R} {Q Q' : VK} (h : SndE C W x f) (st : StR C.K M H σ nv) (hd : DoneE C W M H σ nv ((f nv).bind g) Q')
    (k : ∀ r nv1 v M1 H1, f nv = .ok r nv1 → StR C.K M1 H1 σ nv1 → Rep C.K M1 r.frz v → Step M H (Own σ nv) M1 H1 (Own σ nv1) → DoneE C W M1 H1 σ nv1 (g r nv1) Q' → Q v H1) : tE C W x σ H Q := by
  refine h M H σ nv Q st ?_
  cases e : f nv with
  | ok r nv1 =>
    rw [e] at hd
    intro v M' H' s st' rr
    obtain ⟨M2, st2, rp, s2, _⟩ := freeze st' rr s
    exact k r nv1 v M2 H' e st2 rp s2 (DoneE.later hd s2)
  | exc c as nv1 => rw [e] at hd; exact hd
  | stuck => rw [e] at hd; exact hd.elim
/-! ### operands: a name is looked at when the operation is done -/
def OpdR (K : PySem.W.Frag) (M : Hp) (σ : L2.St) : D ⊕ Nat → V → Prop
  | .inl d, v => Rep K M d v
  | .inr i, v => σ[i]? = some (some v)
theorem OpdR.mono {K : PySem.W.Frag} {M M' : Hp} {σ : L2.St} {o : D ⊕ Nat} {v : V} (e : Same M M') (h : OpdR K M σ o v) : OpdR K M' σ o v := by
  cases o with
  | inl d => exact Rep.mono e h
  | inr i => exact h
/-- a list may be own at the top -/
def RepT (K : PySem.W.Frag) (M H : Hp) : D → V → Prop
  | .lst ds, v => ∃ a vs, v = .ref a ∧ H a = some (.lst vs) ∧ Reps K M ds vs
  | .tup ds, v => ∃ a vs, v = .ref a ∧ GT.SqN K M a vs ∧ Reps K M ds vs
  | .non, v => v = .non
  | .bl b, v => v = .bl b
  | .int i, v => v = .int i
  | .str s, v => v = .str s
  | .scr ns, v => ∃ a, v = .ref a ∧ SqL K M a (ns.map V.int)
  | .dct ks ds, v => ∃ a vs, v = .ref a ∧ H a = some (.dK (zk ks vs)) ∧ ks.length = ds.length ∧ Reps K M ds vs
theorem Rep.top {K : PySem.W.Frag} {M H : Hp} {d : D} {v : V} (e : Same M H) (h : Rep K M d v) : RepT K M H d v := by
  cases d with
  | lst ds =>
    simp only [Rep] at h
    obtain ⟨a, vs, h1, h2, h3⟩ := h
    exact ⟨a, vs, h1, e _ _ h2, h3⟩
  | tup ds => simpa only [Rep, RepT] using h
  | non => simpa only [Rep, RepT] using h
  | bl b => simpa only [Rep, RepT] using h
  | int i => simpa only [Rep, RepT] using h
  | str s => simpa only [Rep, RepT] using h
  | scr ns => simpa only [Rep, RepT] using h
  | dct ks ds =>
    simp only [Rep] at h
    obtain ⟨a, vs, h1, h2, h3⟩ := h
    exact ⟨a, vs, h1, e _ _ h2, h3⟩
theorem look_ok {K : PySem.W.Frag} {o : D ⊕ Nat} {v : V} {d : D} (st : StR K M H σ nv) (h : OpdR K M σ o v) (l : look nv o = some d) : RepT K M H d v := by
  cases o with
  | inl d' =>
    simp only [look, Option.some.injEq] at l
    subst l
    exact Rep.top st.ext h
  | inr i =>
    simp only [look] at l
    have h' : σ[i]? = some (some v) := h
    split at l
    · rename_i d' q
      simp only [Option.some.injEq] at l
      subst l
      obtain ⟨v', e1, e2⟩ := st.get i _ q
      rw [h'] at e1
      cases e1
      exact Rep.top st.ext e2
    · rename_i f ds q
      simp only [Option.some.injEq] at l
      subst l
      obtain ⟨v', e1, e2⟩ := st.get i _ q
      rw [h'] at e1
      cases e1
      obtain ⟨a, o, e3, _, e5, vs, rfl, e6⟩ := e2
      exact ⟨a, vs, e3, e5, e6⟩
    · rename_i ks ds q
      simp only [Option.some.injEq] at l
      subst l
      obtain ⟨v', e1, e2⟩ := st.get i _ q
      rw [h'] at e1
      cases e1
      obtain ⟨a, o, e3, _, e5, vs, rfl, e6⟩ := e2
      exact ⟨a, vs, e3, e5, e6⟩
    · cases l
def SndO (C : Cfg) (W : WX) (x : Expr) (f : Nv → Rs (D ⊕ Nat)) : Prop := ∀ M H σ nv Q, StR C.K M H σ nv → DoneX C W M H σ nv (f nv) (fun o nv' M' H' => ∀ v, OpdR C.K M' σ o v → Q v H') → tE C W x σ H Q
theorem SndO.then {x : Expr} {f : Nv → Rs (D ⊕ Nat)} {g : (D ⊕ Nat) → Nv → Rs R} {Q Q' : VK} (h : SndO C W x f) (st : StR C.K M H σ nv) (hd : DoneE C W M H σ nv ((f nv).bind g) Q')
    (k : ∀ o nv1 v M1 H1, f nv = .ok o nv1 → StR C.K M1 H1 σ nv1 → OpdR C.K M1 σ o v → Step M H (Own σ nv) M1 H1 (Own σ nv1) → DoneE C W M1 H1 σ nv1 (g o nv1) Q' → Q v H1) : tE C W x σ H Q := by
  refine h M H σ nv Q st ?_
  cases e : f nv with
  | ok o nv1 =>
    rw [e] at hd
    intro M' H' s st' v ov
    exact k o nv1 v M' H' e st' ov s (DoneE.later hd s)
  | exc c as nv1 => rw [e] at hd; exact hd
  | stuck => rw [e] at hd; exact hd.elim
/-! ### names -/
def okName (N : List Str) (sc : Scope) (i : Nat) (x : Str) : Bool := decide (N[i]? = some x) && (decide (sc.names.lookup x = some .local) || decide (sc.names.lookup x = some .cell) || decide (sc.names.lookup x = some .free)) && !(x == ("__debug__" : Str)) && !(x == ("__classdict__" : Str))
theorem okName_vis {N : List Str} {sc : Scope} {i : Nat} {x : Str} (h : okName N sc i x = true) : N[i]? = some x ∧ Vis sc x ∧ (x == ("__debug__" : Str)) = false ∧ (x == ("__classdict__" : Str)) = false := by
  unfold okName at h
  simp only [Bool.and_eq_true, Bool.or_eq_true, decide_eq_true_eq, Bool.not_eq_true'] at h
  obtain ⟨⟨⟨h1, h2⟩, h3⟩, h4⟩ := h
  refine ⟨h1, ?_, h3, h4⟩
  rcases h2 with (h2 | h2) | h2
  · exact .inl h2
  · exact .inr (.inl h2)
  · exact .inr (.inr h2)
theorem pe_name {i : Nat} {x : Str} {pos : Pos} (h : okName C.N C.sc i x = true) (X : Cx) (hX : AtE C W X) : PE X (.Name x pos) (tVar i) := by
  obtain ⟨h1, h2, h3, h4⟩ := okName_vis h
  exact pe_var (by rw [hX.N]; exact h1) (by rw [hX.sc]; exact h2) h3 h4
theorem sndO_var {i : Nat} {x : Str} {pos : Pos} (h : okName C.N C.sc i x = true) (ra : Nv → Rs R) : SndO C W (.Name x pos) (fun nv => opd (.var i) nv (ra nv)) := by
  intro M H σ nv Q st hd
  refine tE.by (pe_name h) ?_
  simp only [opd] at hd
  split at hd
  · rename_i s q
    obtain ⟨v, e1, _⟩ := st.get i _ q
    exact ⟨v, e1, hd M H (Step.refl _ _ _) st v e1⟩
  · exact hd.elim
def isVar : E → Bool
  | .var _ => true
  | _ => false
theorem sndO_of {x : Expr} {a : E} {ra : Nv → Rs R} (na : isVar a = false) (h : SndE C W x ra) : SndO C W x (fun nv => opd a nv (ra nv)) := by
  intro M H σ nv Q st hd
  have e : opd a nv (ra nv) = (ra nv).bind fun r nv1 => .ok (.inl r.frz) nv1 := by
    cases a <;> first | rfl | (cases na)
  have hd : DoneX C W M H σ nv (opd a nv (ra nv)) _ := hd
  rw [e] at hd
  exact SndE.then h st hd fun r nv1 v M1 H1 e1 st1 rp s1 hd1 => hd1 M1 H1 (Step.refl _ _ _) st1 v rp
/-! ### operations on data -/
structure Prim (M H M' H' : Hp) : Prop where
  mm : Same M M'
  hh : Same H H'
  ext : Same M' H'
  mnew : ∀ a o, M' a = some o → M a = some o ∨ H a = none
theorem Prim.refl (e : Same M H) : Prim M H M H := ⟨Same.refl _, Same.refl _, e, fun _ _ h => .inl h⟩
def PR (K : PySem.W.Frag) (M H M' H' : Hp) : R → V → Prop
  | .val d, v => Rep K M' d v
  | .own ds, v => ∃ a vs, v = .ref a ∧ H' a = some (.lst vs) ∧ M' a = none ∧ H a = none ∧ Reps K M' ds vs
theorem prim_done {r : R} {v : V} {Q : VK} {M' H' : Hp} (hd : DoneE C W M H σ nv (.ok r nv) Q) (st : StR C.K M H σ nv) (p : Prim M H M' H') (h : PR C.K M H M' H' r v) : Q v H' := by
  have own : ∀ a, Own σ nv a → M' a = none := fun a h => by
    cases e : M' a with
    | none => rfl
    | some o =>
      obtain ⟨h1, vs, h2⟩ := st.own_at h
      rcases p.mnew a o e with z | z
      · rw [h1] at z; cases z
      · rw [h2] at z; cases z
  have st' : StR C.K M' H' σ nv := st.grow p.mm (fun a o h => p.hh a o h) p.ext own
  have dom : ∀ a, H' a = none → H a = none := fun a h => by
    cases e : H a with
    | none => rfl
    | some o => rw [p.hh a o e] at h; cases h
  have mnew : ∀ a o, M' a = some o → M a = some o ∨ Own σ nv a ∨ H a = none := fun a o h => (p.mnew a o h).elim .inl fun z => .inr (.inr z)
  cases r with
  | val d => exact hd v M' H' ⟨p.mm, fun a o h _ => p.hh a o h, fun a h => .inl (h.elim id False.elim), dom, mnew⟩ st' h
  | own ds =>
    obtain ⟨a, vs, rfl, h1, h2, h3, h4⟩ := h
    refine hd _ M' H' ⟨p.mm, fun a o h _ => p.hh a o h, fun b hb => ?_, dom, mnew⟩ st' ⟨a, vs, rfl, h1, h2, fun z => ?_, h4⟩
    · rcases hb with z | z
      · exact .inl z
      · have z' : V.ref a = V.ref b := z
        injection z' with z'
        exact .inr (z' ▸ h3)
    · obtain ⟨_, vs', h5⟩ := st.own_at z
      rw [h3] at h5; cases h5
abbrev Ok1 (K : PySem.W.Frag) (r : V → Hp → VK → Prop) (p : D → Option R) : Prop := ∀ (M H : Hp) (d : D) (v : V) (res : R) (Q : VK), Same M H → RepT K M H d v → p d = some res →
  (∀ v' M' H', Prim M H M' H' → PR K M H M' H' res v' → Q v' H') → r v H Q
abbrev Ok2 (K : PySem.W.Frag) (r : V → V → Hp → VK → Prop) (p : D → D → Option R) : Prop := ∀ (M H : Hp) (d e : D) (v u : V) (res : R) (Q : VK), Same M H → RepT K M H d v → RepT K M H e u → p d e = some res →
  (∀ v' M' H', Prim M H M' H' → PR K M H M' H' res v' → Q v' H') → r v u H Q
section
variable {Φ : Fn} {shs : Nat → Nat → Shape}
theorem snd_op1 {x whole : Expr} {a : E} {p : P1} {r : V → Hp → VK → Prop} (ho : SndO C W x (fun nv => opd a nv (evE Φ shs a nv)))
    (pe : ∀ X, AtE C W X → PE X whole (fun σ H Q => tE C W x σ H fun v H1 => r v H1 Q)) (ok : Ok1 C.K r (p1 p)) : SndE C W whole (evE Φ shs (.op1 p a)) := by
  intro M H σ nv Q st hd
  refine tE.by pe ?_
  rw [evE] at hd
  refine SndO.then ho st hd fun o nv1 v M1 H1 e1 st1 ov s1 hd1 => ?_
  cases l : look nv1 o with
  | none => rw [l] at hd1; exact hd1.elim
  | some d =>
    rw [l] at hd1
    cases q : p1 p d with
    | none =>
      have : DoneE C W M1 H1 σ nv1 (Rs.of (p1 p d) nv1) Q := hd1
      rw [q] at this; exact this.elim
    | some res =>
      have hd2 : DoneE C W M1 H1 σ nv1 (Rs.of (p1 p d) nv1) Q := hd1
      rw [q] at hd2
      exact ok M1 H1 d v res Q st1.ext (look_ok st1 ov l) q fun v' M' H' p' h' => prim_done hd2 st1 p' h'
theorem snd_op2 {x y whole : Expr} {a b : E} {p : P2} {r : V → V → Hp → VK → Prop} (ho : SndO C W x (fun nv => opd a nv (evE Φ shs a nv))) (ho2 : SndO C W y (fun nv => opd b nv (evE Φ shs b nv)))
    (pe : ∀ X, AtE C W X → PE X whole (fun σ H Q => tE C W x σ H fun v H1 => tE C W y σ H1 fun u H2 => r v u H2 Q)) (ok : Ok2 C.K r (p2 p)) : SndE C W whole (evE Φ shs (.op2 p a b)) := by
  intro M H σ nv Q st hd
  refine tE.by pe ?_
  rw [evE] at hd
  refine SndO.then ho st hd fun o nv1 v M1 H1 e1 st1 ov s1 hd1 => ?_
  refine SndO.then ho2 st1 hd1 fun o2 nv2 u M2 H2 e2 st2 ou s2 hd2 => ?_
  have ov2 := OpdR.mono s2.mm ov
  cases l : look nv2 o with
  | none => rw [l] at hd2; exact hd2.elim
  | some d =>
    cases l2 : look nv2 o2 with
    | none => rw [l, l2] at hd2; exact hd2.elim
    | some e =>
      rw [l, l2] at hd2
      have hd3 : DoneE C W M2 H2 σ nv2 (Rs.of (p2 p d e) nv2) Q := hd2
      cases q : p2 p d e with
      | none => rw [q] at hd3; exact hd3.elim
      | some res =>
        rw [q] at hd3
        exact ok M2 H2 d e v u res Q st2.ext (look_ok st2 ov2 l) (look_ok st2 ou l2) q fun v' M' H' p' h' => prim_done hd3 st2 p' h'
end
/-- a scalar result -/
theorem PR.val0 {K : PySem.W.Frag} {Q : VK} {d : D} {v : V} (e : Same M H) (k : ∀ v' M' H', Prim M H M' H' → PR K M H M' H' (.val d) v' → Q v' H') (h : Rep K M d v) : Q v H := k v M H (Prim.refl e) h
/-- a new tuple, a new list -/
theorem PR.tup {K : PySem.W.Frag} {Q : VK} {ds : List D} {vs : List V} (e : Same M H) (k : ∀ v' M' H', Prim M H M' H' → PR K M H M' H' (.val (.tup ds)) v' → Q v' H') (h : Reps K M ds vs) : GT.MkT H vs Q := by
  intro p ob np no
  have mp : M p = none := by
    cases q : M p with
    | none => rfl
    | some o => rw [e _ _ q] at np; cases np
  have sm : Same M (upd M p (.frz ob (.tup vs))) := same_upd mp
  refine k (.ref p) (upd M p (.frz ob (.tup vs))) _ ⟨sm, same_upd np, fun a o h => ?_, fun a o h => ?_⟩ ?_
  · by_cases ha : a = p
    · subst ha; rw [upd_same] at h ⊢; exact h
    · rw [upd_ne ha] at h ⊢; exact e _ _ h
  · by_cases ha : a = p
    · subst ha; exact .inr np
    · rw [upd_ne ha] at h; exact .inl h
  · simp only [PR, Rep]
    exact ⟨p, vs, rfl, .inl ⟨ob, upd_same, no⟩, Reps.mono sm h⟩
theorem PR.lst {K : PySem.W.Frag} {Q : VK} {ds : List D} {vs : List V} {p : Addr} (e : Same M H) (k : ∀ v' M' H', Prim M H M' H' → PR K M H M' H' (.own ds) v' → Q v' H') (h : Reps K M ds vs) (np : H p = none) : Q (.ref p) (upd H p (.lst vs)) := by
  have mp : M p = none := by
    cases q : M p with
    | none => rfl
    | some o => rw [e _ _ q] at np; cases np
  refine k (.ref p) M _ ⟨Same.refl _, same_upd np, fun a o h => ?_, fun a o h => .inl h⟩ ?_
  · rw [upd_ne (ne_of_none h mp)]; exact e _ _ h
  · exact ⟨p, vs, rfl, upd_same, mp, np, h⟩
end
end G
namespace G
open PySem PySem.Spec PyProof.Rows L2
theorem lexAt_shift (e r : Nat → Bool) (z : Bool) : ∀ (k i : Nat), Ob.lexAt e r z (i + 1) k = Ob.lexAt (fun j => e (j + 1)) (fun j => r (j + 1)) z i k
  | 0, _ => rfl
  | k + 1, i => by
    rw [Ob.lexAt_succ, Ob.lexAt_succ, lexAt_shift e r z k (i + 1)]
theorem lexAt_O (f : Int → Int → Bool) (z : Nat → Nat → Bool) (z0 : z 0 0 = f 0 0) (z1 : ∀ m, z 0 (m + 1) = f 0 1) (z2 : ∀ n, z (n + 1) 0 = f 1 0) (z3 : ∀ n m, z (n + 1) (m + 1) = z n m) :
    ∀ ns ms : List Int, Ob.lexAt (fun j => decide (ns.getD j 0 = ms.getD j 0)) (fun j => f (ns.getD j 0) (ms.getD j 0)) (z ns.length ms.length) 0 (min ns.length ms.length) = lexO f ns ms
  | [], [] => z0
  | [], _ :: ms => by simp only [List.length_nil, Nat.zero_min, Ob.lexAt_zero, lexO, List.length_cons]; exact z1 _
  | _ :: ns, [] => by simp only [List.length_nil, Nat.min_zero, Ob.lexAt_zero, lexO, List.length_cons]; exact z2 _
  | x :: ns, y :: ms => by
    rw [List.length_cons, List.length_cons, show min (ns.length + 1) (ms.length + 1) = min ns.length ms.length + 1 by omega, Ob.lexAt_succ, lexAt_shift, z3]
    have ih := lexAt_O f z z0 z1 z2 z3 ns ms
    rw [lexO]
    simp only [List.getD_cons_zero, List.getD_cons_succ, decide_eq_true_eq]
    rw [ih]
def rLexO (K : PySem.W.Frag) (f : Int → Int → Bool) : R2 := fun x y H Q => ∃ (a b : Addr) (ns ms : List Int), x = .ref a ∧ y = .ref b ∧ SqT K H a (ns.map V.int) ∧ SqT K H b (ms.map V.int) ∧ Q (.bl (lexO f ns ms)) H
theorem op_ltO {X : Cx} (hu : X.A.units < cLine) : OpR X (compareOp .Lt) (rLexO X.K (fun i j => decide (i < j))) := by
  intro pins s σ H x y v u Q I rx ry h
  obtain ⟨a, b, ns, ms, rfl, rfl, ha, hb, q⟩ := h
  cases rx
  cases ry
  obtain ⟨its, r1, p1, _⟩ := I.tuple ha
  obtain ⟨its2, r2, p2, _⟩ := I.tuple hb
  have i1 : IntsAre its ns := Vals.ints r1
  have i2 : IntsAre its2 ms := Vals.ints r2
  have e1 : its.toArray.size = ns.length := by rw [List.size_toArray]; exact i1.length
  have e2 : its2.toArray.size = ms.length := by rw [List.size_toArray]; exact i2.length
  have at1 : ∀ j (h1 : j < its.toArray.size), ∃ t, its.toArray[j] = .int (ns.getD j 0) t := fun j h1 => PyProof.Rows.IntsAre.int_at i1 _ _ (by simp at h1; simp [h1])
  have at2 : ∀ j (h1 : j < its2.toArray.size), ∃ t, its2.toArray[j] = .int (ms.getD j 0) t := fun j h1 => PyProof.Rows.IntsAre.int_at i2 _ _ (by simp at h1; simp [h1])
  have R := Ob.RcOp.tuples_lt (A := X.A) (s := s) (e := fun j => decide (ns.getD j 0 = ms.getD j 0)) (r := fun j => (fun i j => decide (i < j)) (ns.getD j 0) (ms.getD j 0)) p1 p2 hu (fun j h1 h2 => by
    obtain ⟨t, et⟩ := at1 j h1
    obtain ⟨t', et'⟩ := at2 j h2
    rw [et, et']
    have z : (ns.getD j 0 == ms.getD j 0) = decide (ns.getD j 0 = ms.getD j 0) := by
      by_cases q : ns.getD j 0 = ms.getD j 0
      · rw [decide_eq_true q]; exact beq_iff_eq.mpr q
      · rw [decide_eq_false q]; exact beq_eq_false_iff_ne.mpr q
    rw [← z]
    exact SeqAt.EqAt.int_int _ _ _ _) (fun j h1 h2 _ => by
    obtain ⟨t, et⟩ := at1 j h1
    obtain ⟨t', et'⟩ := at2 j h2
    rw [et, et']
    exact Ob.RcOp.lt_int _ _ _ _)
  rw [e1, e2] at R
  rw [← lexAt_O (fun i j => decide (i < j)) (fun n m => decide (n < m)) (by decide) (by simp) (by simp) (by simp)] at q
  exact R X.prog X.w X.xe (EP X pins σ Q) ⟨.bl _, H, I, rfl, q⟩
theorem op_leO {X : Cx} (hu : X.A.units < cLine) : OpR X (compareOp .LtE) (rLexO X.K (fun i j => decide (i ≤ j))) := by
  intro pins s σ H x y v u Q I rx ry h
  obtain ⟨a, b, ns, ms, rfl, rfl, ha, hb, q⟩ := h
  cases rx
  cases ry
  obtain ⟨its, r1, p1, _⟩ := I.tuple ha
  obtain ⟨its2, r2, p2, _⟩ := I.tuple hb
  have i1 : IntsAre its ns := Vals.ints r1
  have i2 : IntsAre its2 ms := Vals.ints r2
  have e1 : its.toArray.size = ns.length := by rw [List.size_toArray]; exact i1.length
  have e2 : its2.toArray.size = ms.length := by rw [List.size_toArray]; exact i2.length
  have at1 : ∀ j (h1 : j < its.toArray.size), ∃ t, its.toArray[j] = .int (ns.getD j 0) t := fun j h1 => PyProof.Rows.IntsAre.int_at i1 _ _ (by simp at h1; simp [h1])
  have at2 : ∀ j (h1 : j < its2.toArray.size), ∃ t, its2.toArray[j] = .int (ms.getD j 0) t := fun j h1 => PyProof.Rows.IntsAre.int_at i2 _ _ (by simp at h1; simp [h1])
  have R := Ob.RcOp.tuples_le (A := X.A) (s := s) (e := fun j => decide (ns.getD j 0 = ms.getD j 0)) (r := fun j => (fun i j => decide (i ≤ j)) (ns.getD j 0) (ms.getD j 0)) p1 p2 hu (fun j h1 h2 => by
    obtain ⟨t, et⟩ := at1 j h1
    obtain ⟨t', et'⟩ := at2 j h2
    rw [et, et']
    have z : (ns.getD j 0 == ms.getD j 0) = decide (ns.getD j 0 = ms.getD j 0) := by
      by_cases q : ns.getD j 0 = ms.getD j 0
      · rw [decide_eq_true q]; exact beq_iff_eq.mpr q
      · rw [decide_eq_false q]; exact beq_eq_false_iff_ne.mpr q
    rw [← z]
    exact SeqAt.EqAt.int_int _ _ _ _) (fun j h1 h2 _ => by
    obtain ⟨t, et⟩ := at1 j h1
    obtain ⟨t', et'⟩ := at2 j h2
    rw [et, et']
    exact Ob.RcOp.le_int _ _ _ _)
  rw [e1, e2] at R
  rw [← lexAt_O (fun i j => decide (i ≤ j)) (fun n m => decide (n ≤ m)) (by decide) (by simp) (by simp) (by simp)] at q
  exact R X.prog X.w X.xe (EP X pins σ Q) ⟨.bl _, H, I, rfl, q⟩
theorem op_gtO {X : Cx} (hu : X.A.units < cLine) : OpR X (compareOp .Gt) (rLexO X.K (fun i j => decide (j < i))) := by
  intro pins s σ H x y v u Q I rx ry h
  obtain ⟨a, b, ns, ms, rfl, rfl, ha, hb, q⟩ := h
  cases rx
  cases ry
  obtain ⟨its, r1, p1, _⟩ := I.tuple ha
  obtain ⟨its2, r2, p2, _⟩ := I.tuple hb
  have i1 : IntsAre its ns := Vals.ints r1
  have i2 : IntsAre its2 ms := Vals.ints r2
  have e1 : its.toArray.size = ns.length := by rw [List.size_toArray]; exact i1.length
  have e2 : its2.toArray.size = ms.length := by rw [List.size_toArray]; exact i2.length
  have at1 : ∀ j (h1 : j < its.toArray.size), ∃ t, its.toArray[j] = .int (ns.getD j 0) t := fun j h1 => PyProof.Rows.IntsAre.int_at i1 _ _ (by simp at h1; simp [h1])
  have at2 : ∀ j (h1 : j < its2.toArray.size), ∃ t, its2.toArray[j] = .int (ms.getD j 0) t := fun j h1 => PyProof.Rows.IntsAre.int_at i2 _ _ (by simp at h1; simp [h1])
  have R := Ob.RcOp.tuples_gt (A := X.A) (s := s) (e := fun j => decide (ns.getD j 0 = ms.getD j 0)) (r := fun j => (fun i j => decide (j < i)) (ns.getD j 0) (ms.getD j 0)) p1 p2 hu (fun j h1 h2 => by
    obtain ⟨t, et⟩ := at1 j h1
    obtain ⟨t', et'⟩ := at2 j h2
    rw [et, et']
    have z : (ns.getD j 0 == ms.getD j 0) = decide (ns.getD j 0 = ms.getD j 0) := by
      by_cases q : ns.getD j 0 = ms.getD j 0
      · rw [decide_eq_true q]; exact beq_iff_eq.mpr q
      · rw [decide_eq_false q]; exact beq_eq_false_iff_ne.mpr q
    rw [← z]
    exact SeqAt.EqAt.int_int _ _ _ _) (fun j h1 h2 _ => by
    obtain ⟨t, et⟩ := at1 j h1
    obtain ⟨t', et'⟩ := at2 j h2
    rw [et, et']
    exact Ob.RcOp.gt_int _ _ _ _)
  rw [e1, e2] at R
  rw [← lexAt_O (fun i j => decide (j < i)) (fun n m => decide (n > m)) (by decide) (by simp) (by simp) (by simp)] at q
  exact R X.prog X.w X.xe (EP X pins σ Q) ⟨.bl _, H, I, rfl, q⟩
theorem op_geO {X : Cx} (hu : X.A.units < cLine) : OpR X (compareOp .GtE) (rLexO X.K (fun i j => decide (j ≤ i))) := by
  intro pins s σ H x y v u Q I rx ry h
  obtain ⟨a, b, ns, ms, rfl, rfl, ha, hb, q⟩ := h
  cases rx
  cases ry
  obtain ⟨its, r1, p1, _⟩ := I.tuple ha
  obtain ⟨its2, r2, p2, _⟩ := I.tuple hb
  have i1 : IntsAre its ns := Vals.ints r1
  have i2 : IntsAre its2 ms := Vals.ints r2
  have e1 : its.toArray.size = ns.length := by rw [List.size_toArray]; exact i1.length
  have e2 : its2.toArray.size = ms.length := by rw [List.size_toArray]; exact i2.length
  have at1 : ∀ j (h1 : j < its.toArray.size), ∃ t, its.toArray[j] = .int (ns.getD j 0) t := fun j h1 => PyProof.Rows.IntsAre.int_at i1 _ _ (by simp at h1; simp [h1])
  have at2 : ∀ j (h1 : j < its2.toArray.size), ∃ t, its2.toArray[j] = .int (ms.getD j 0) t := fun j h1 => PyProof.Rows.IntsAre.int_at i2 _ _ (by simp at h1; simp [h1])
  have R := Ob.RcOp.tuples_ge (A := X.A) (s := s) (e := fun j => decide (ns.getD j 0 = ms.getD j 0)) (r := fun j => (fun i j => decide (j ≤ i)) (ns.getD j 0) (ms.getD j 0)) p1 p2 hu (fun j h1 h2 => by
    obtain ⟨t, et⟩ := at1 j h1
    obtain ⟨t', et'⟩ := at2 j h2
    rw [et, et']
    have z : (ns.getD j 0 == ms.getD j 0) = decide (ns.getD j 0 = ms.getD j 0) := by
      by_cases q : ns.getD j 0 = ms.getD j 0
      · rw [decide_eq_true q]; exact beq_iff_eq.mpr q
      · rw [decide_eq_false q]; exact beq_eq_false_iff_ne.mpr q
    rw [← z]
    exact SeqAt.EqAt.int_int _ _ _ _) (fun j h1 h2 _ => by
    obtain ⟨t, et⟩ := at1 j h1
    obtain ⟨t', et'⟩ := at2 j h2
    rw [et, et']
    exact Ob.RcOp.ge_int _ _ _ _)
  rw [e1, e2] at R
  rw [← lexAt_O (fun i j => decide (j ≤ i)) (fun n m => decide (n ≥ m)) (by decide) (by simp) (by simp) (by simp)] at q
  exact R X.prog X.w X.xe (EP X pins σ Q) ⟨.bl _, H, I, rfl, q⟩
theorem firstLt_at (e r : Nat → Bool) (z : Bool) : ∀ (k i : Nat), SeqAt.firstLt e r z (List.range' i k) = Ob.lexAt e r z i k
  | 0, _ => rfl
  | k + 1, i => by
    rw [List.range'_succ, Ob.lexAt_succ, ← firstLt_at e r z k (i + 1)]
    rfl
def rLexL (K : PySem.W.Frag) (f : Int → Int → Bool) : R2 := fun x y H Q => ∃ (a b : Addr) (ns ms : List Int), x = .ref a ∧ y = .ref b ∧ SqL K H a (ns.map V.int) ∧ SqL K H b (ms.map V.int) ∧ Q (.bl (lexO f ns ms)) H
theorem op_leL {X : Cx} (hu : X.A.units < cLine) : OpR X (compareOp .LtE) (rLexL X.K (fun i j => decide (i ≤ j))) := by
  intro pins s σ H x y v u Q I rx ry h
  obtain ⟨a, b, ns, ms, rfl, rfl, ha, hb, q⟩ := h
  cases rx
  cases ry
  obtain ⟨its, r1, p1, _⟩ := I.list ha
  obtain ⟨its2, r2, p2, _⟩ := I.list hb
  have i1 : IntsAre its ns := Vals.ints r1
  have i2 : IntsAre its2 ms := Vals.ints r2
  have e1 : its.toArray.size = ns.length := by rw [List.size_toArray]; exact i1.length
  have e2 : its2.toArray.size = ms.length := by rw [List.size_toArray]; exact i2.length
  have at1 : ∀ j (h1 : j < its.toArray.size), ∃ t, its.toArray[j] = .int (ns.getD j 0) t := fun j h1 => PyProof.Rows.IntsAre.int_at i1 _ _ (by simp at h1; simp [h1])
  have at2 : ∀ j (h1 : j < its2.toArray.size), ∃ t, its2.toArray[j] = .int (ms.getD j 0) t := fun j h1 => PyProof.Rows.IntsAre.int_at i2 _ _ (by simp at h1; simp [h1])
  have R := SeqAt.RcOp.lists_le (A := X.A) (s := s) (e := fun j => decide (ns.getD j 0 = ms.getD j 0)) (r := fun j => (fun i j => decide (i ≤ j)) (ns.getD j 0) (ms.getD j 0)) p1.isList p2.isList hu (fun j h1 h2 => by
    obtain ⟨t, et⟩ := at1 j h1
    obtain ⟨t', et'⟩ := at2 j h2
    rw [et, et']
    have z : (ns.getD j 0 == ms.getD j 0) = decide (ns.getD j 0 = ms.getD j 0) := by
      by_cases q : ns.getD j 0 = ms.getD j 0
      · rw [decide_eq_true q]; exact beq_iff_eq.mpr q
      · rw [decide_eq_false q]; exact beq_eq_false_iff_ne.mpr q
    rw [← z]
    exact SeqAt.EqAt.int_int _ _ _ _) (fun j h1 h2 _ => by
    obtain ⟨t, et⟩ := at1 j h1
    obtain ⟨t', et'⟩ := at2 j h2
    rw [et, et']
    exact fun _ _ _ _ h => PyProof.Rows.le_int h)
  rw [e1, e2, List.range_eq_range', firstLt_at] at R
  rw [← lexAt_O (fun i j => decide (i ≤ j)) (fun n m => decide (n ≤ m)) (by decide) (by simp) (by simp) (by simp)] at q
  exact R X.prog X.w X.xe (EP X pins σ Q) ⟨.bl _, H, I, rfl, q⟩
end G
set_option maxHeartbeats 4000000
/-! tuple * int, the tuple's object known -/
namespace GT
open PySem PySem.Spec PyProof.Rows L2
theorem tuple_mul1 (l : Addr) (items : Array Value) (n : Nat) (dd : Option Addr) (sl : Array (Option Value)) (u : Tok) :
    Meets (Builtin.«tuple.__mul__» ⟨[.ref l, .int 1 u], []⟩) (fun _ R s => s.heap.get? l = some { cls := .type "tuple", dict := dd, data := .seq items n, slots := sl } ∧
      R (.ok (.ret (Value.ref l))) s) :=
  .of_wp fun prog w A R s h => by
    obtain ⟨hp, g, d, tk, os⟩ := s
    obtain ⟨hl, h⟩ := h
    have f1 := AutoSeq1.idx_int
    wp_walk using wpAny_loadPart' hl
    repeat (first
      | (refine wpAny_ite_false (decide_eq_false (by decide)) ?_; wp_walk using wpAny_loadPart' hl)
      | (refine wpAny_ite_true (decide_eq_true (by first | decide | simp)) ?_; wp_walk using wpAny_loadPart' hl))
    exact ⟨_, rfl, h⟩
def rRepN (K : PySem.W.Frag) : R2 := fun x y H Q => ∃ l k xs, x = .ref l ∧ y = .int k ∧ SqT K H l xs ∧ ((k = 1 ∧ Q (.ref l) H) ∨ (xs ≠ [] ∧ 2 ≤ k ∧ k ≤ 1000 ∧ xs.length ≤ 1000 ∧ MkT H (List.replicate k.toNat xs).flatten Q))
section
variable {X : Cx}
theorem op_repN : OpR X (binaryOp .Mult) (rRepN X.K) := by
  intro pins s σ H x y v u Q I rx ry h
  obtain ⟨l, k, xs, rfl, rfl, hT, h⟩ := h
  cases rx
  obtain ⟨t, rfl⟩ := ry
  obtain ⟨its, r, ⟨⟨cls, dd, data, sl⟩, ho, hc, n, hd⟩, hs⟩ := I.tuple hT
  simp only at hc hd
  subst hc hd
  rcases h with ⟨rfl, q⟩ | ⟨hne, h1, h2, hz, q⟩
  · refine wpAny_binaryOp_repeat_ref (T := "tuple") (U := "int") (by decide) ⟨_, ho, rfl⟩ (fun s' => typeIs_int s' 1 t) noFill_tuple_mul F.fills_int_mul F.slot_int_rmul repeat_tuple F.slot_int_index.lookup
      (call_meets F.slot_int_rmul (typeIs_int s 1 t) F.entry_int_rmul (F.args_int_rmul_2 _ _) (int_rmul_tuple 1 t l its.toArray n dd sl)
        ⟨ho, rfl, ⟨_, ho, rfl⟩, call_meets F.slot_tuple_mul ⟨_, ho, rfl⟩ F.entry_tuple_mul (F.args_tuple_mul_2 _ _) (tuple_mul1 l its.toArray n dd sl t) ⟨ho, ?_⟩⟩)
    exact ⟨.ref l, H, I, rfl, q⟩
  have hle : its.length = xs.length := r.length.symm
  have hn : its ≠ [] := fun e => hne (by
    rw [e] at hle
    exact List.eq_nil_of_length_eq_zero hle.symm)
  have hi : its.toArray.isEmpty = false := by
    cases its with
    | nil => exact absurd rfl hn
    | cons a b => rfl
  have hsz0 : its.toArray.size = xs.length := by rw [List.size_toArray, hle]
  have hm : ((its.toArray.size : Nat) : Int) * k ≤ 1000000 := by
    rw [hsz0]
    have a1 : ((xs.length : Nat) : Int) * k ≤ 1000 * k := Int.mul_le_mul_of_nonneg_right (by omega) (by omega)
    omega
  have flen : (List.replicate k.toNat its).flatten.length ≤ sizeLine := by
    rw [PyProof.Rows.lm_len_rep_flat, hle, sizeLine_eq]
    have a1 : k.toNat * xs.length ≤ 1000 * 1000 := Nat.mul_le_mul (by omega) hz
    omega
  have c0 : (decide (k < -(2 ^ 63)) || decide (k ≥ 2 ^ 63)) = false := by
    rw [decide_eq_false (by omega), decide_eq_false (by omega)] <;> rfl
  have c1 : (its.toArray.isEmpty || k == 1) = false := by
    rw [hi, Bool.false_or]
    exact beq_eq_false_iff_ne.mpr (by omega)
  have c2 : (decide (k ≤ 0) || its.toArray.isEmpty) = false := by
    rw [hi, Bool.or_false]
    exact decide_eq_false (by omega)
  have c4 : Builtin.Tuple.tupleTooMany (((its.toArray.size : Nat) : Int) * k) = false := by
    unfold Builtin.Tuple.tupleTooMany
    rw [sizeLine_eq]
    exact decide_eq_false (by omega)
  refine wpAny_binaryOp_repeat_ref (T := "tuple") (U := "int") (by decide) ⟨_, ho, rfl⟩ (fun s' => typeIs_int s' k t) noFill_tuple_mul F.fills_int_mul F.slot_int_rmul repeat_tuple F.slot_int_index.lookup
    (call_meets F.slot_int_rmul (typeIs_int s k t) F.entry_int_rmul (F.args_int_rmul_2 _ _) (int_rmul_tuple k t l its.toArray n dd sl)
      ⟨ho, rfl, ⟨_, ho, rfl⟩, call_meets F.slot_tuple_mul ⟨_, ho, rfl⟩ F.entry_tuple_mul (F.args_tuple_mul_2 _ _) (tuple_mulW l its.toArray n dd sl k t c0 c1 c2 (by omega) c4 (by rw [size_rep, List.size_toArray]; exact flen)) ⟨ho, ?_⟩⟩)
  rw [size_rep]
  exact newP (t' := s.toks) I (by rw [PyProof.Rows.lm_len_rep_flat, sizeLine_eq]; have a1 : k.toNat * xs.length ≤ 1000 * 1000 := Nat.mul_le_mul (by omega) hz; omega) (r.rep k.toNat) q
end
end GT
namespace G
open PySem PySem.Spec PyProof.Rows L2
variable [Tb]
section
variable {K : PySem.W.Frag}
/-- the shape of data from the shape of the value -/
theorem bnd {α : Type} {o : Option α} {f : α → R} {r : R} (h : o.map f = some r) : ∃ a, o = some a ∧ f a = r := by
  cases o with
  | none => cases h
  | some a => exact ⟨a, rfl, Option.some.inj h⟩
theorem SqT.up {M H : Hp} {a : Addr} {vs : List V} (e : Same M H) (h : GT.SqN K M a vs) : SqT K H a vs := Same.sqt e h.t
theorem SZ_le {n : Nat} (h : n ≤ SZ) : n ≤ sizeLine := by rw [sizeLine_eq]; exact h
theorem ok_add : Ok2 K (fun x y H Q => rI0 (fun i j => .int (i + j)) x y H Q ∨ (∃ i j, x = .str i ∧ y = .str j ∧ i.length + j.length ≤ sizeLine ∧ Q (.str (i ++ j)) H) ∨ GT.rCatN K x y H Q ∨ rCat x y H Q) pAdd := by
  intro M H d e v u res Q sm rd re q k
  cases d <;> cases e <;> simp only [pAdd] at q <;> try cases q
  · rename_i i j
    simp only [RepT] at rd re
    exact .inl ⟨i, j, rd, re, PR.val0 sm k (by simp [Rep])⟩
  · rename_i i j
    simp only [RepT] at rd re
    split at q <;> try cases q
    rename_i hz
    exact .inr (.inl ⟨i, j, rd, re, SZ_le hz, PR.val0 sm k (by simp [Rep])⟩)
  · rename_i xs ys
    split at q <;> try cases q
    rename_i hz
    obtain ⟨a, vs, rfl, h1, h2⟩ := rd
    obtain ⟨b, ws, rfl, h3, h4⟩ := re
    refine .inr (.inr (.inl ⟨a, b, vs, ws, rfl, rfl, SqT.up sm h1, SqT.up sm h3, ?_, fun z => ?_, fun _ z => ?_, fun _ _ => ?_⟩))
    · rw [← h2.length, ← h4.length]; exact SZ_le hz
    · have e0 : xs = [] := List.length_eq_zero_iff.mp (by have := h2.length; rw [z] at this; exact this)
      subst e0
      refine PR.val0 sm k ?_
      simp only [Rep, List.nil_append]
      exact ⟨b, ws, rfl, h3, h4⟩
    · have e0 : ys = [] := List.length_eq_zero_iff.mp (by have := h4.length; rw [z] at this; exact this)
      subst e0
      refine PR.val0 sm k ?_
      simp only [Rep, List.append_nil]
      exact ⟨a, vs, rfl, h1, h2⟩
    · exact PR.tup sm k (h2.append h4)
  · rename_i xs ys
    split at q <;> try cases q
    rename_i hz
    obtain ⟨a, vs, rfl, h1, h2⟩ := rd
    obtain ⟨b, ws, rfl, h3, h4⟩ := re
    refine .inr (.inr (.inr ⟨a, b, vs, ws, rfl, rfl, h1, h3, ?_, fun p np => PR.lst sm k (h2.append h4) np⟩))
    rw [← h2.length, ← h4.length]; exact SZ_le hz
theorem ok_sub : Ok2 K (rI0 fun i j => .int (i - j)) pSub := by
  intro M H d e v u res Q sm rd re q k
  cases d <;> cases e <;> simp only [pSub] at q <;> try cases q
  simp only [RepT] at rd re
  exact ⟨_, _, rd, re, PR.val0 sm k (by simp [Rep])⟩
/-- a text times an int -/
def rMulS : R2 := fun x y H Q => ∃ (z : Str) (k : Int), x = .str z ∧ y = .int k ∧ (z.length ≤ 16 ∧ -(2 ^ 63) ≤ k ∧ k ≤ 1000000) ∧ Q (.str (Txt.mul z k)) H
theorem op_mulS {X : Cx} : OpR X (binaryOp .Mult) rMulS := by
  intro pins s σ H x y v u Q I rx ry h
  obtain ⟨z, k, rfl, rfl, ⟨h1, h2, h3⟩, q⟩ := h
  obtain ⟨t, rfl⟩ := rx
  obtain ⟨t', rfl⟩ := ry
  exact SB.mul (mulOk_of 16 1000000 h1 h3 h2 (by decide) (by decide)) fun t2 k2 => ⟨.str (Txt.mul z k), H, I.tok _, ⟨_, rfl⟩, q⟩
theorem ok_mul : Ok2 K (fun x y H Q => rI CMul (fun i j => .int (i * j)) x y H Q ∨ rRep x y H Q ∨ rMulS x y H Q ∨ GT.rRepN K x y H Q) pMul := by
  intro M H d e v u res Q sm rd re q k
  cases d <;> cases e <;> simp only [pMul] at q <;> try cases q
  · split at q <;> try cases q
    rename_i hz
    simp only [RepT] at rd re
    exact .inl ⟨_, _, rd, re, hz, PR.val0 sm k (by simp [Rep])⟩
  · split at q <;> try cases q
    rename_i hz
    simp only [RepT] at rd re
    exact .inr (.inr (.inl ⟨_, _, rd, re, hz, PR.val0 sm k (by simp [Rep])⟩))
  · rename_i xs n
    obtain ⟨a, vs, rfl, h1, h2⟩ := rd
    simp only [RepT] at re
    split at q
    · rename_i h
      cases q
      refine .inr (.inr (.inr ⟨a, n, vs, rfl, re, SqT.up sm h1, .inl ⟨h, PR.val0 sm k ?_⟩⟩))
      simp only [Rep]
      exact ⟨a, vs, rfl, h1, h2⟩
    · split at q <;> try cases q
      rename_i hz
      refine .inr (.inr (.inr ⟨a, n, vs, rfl, re, SqT.up sm h1, .inr ⟨fun z => ?_, hz.2.1, hz.2.2.1, by rw [← h2.length]; exact hz.2.2.2, PR.tup sm k ?_⟩⟩))
      · subst z
        have := h2.length
        cases xs with
        | nil => exact absurd hz.1 (by decide)
        | cons a b => cases this
      · generalize n.toNat = m
        induction m with
        | zero => simp [Reps]
        | succ m ih =>
          rw [List.replicate_succ, List.replicate_succ, List.flatten_cons, List.flatten_cons]
          exact h2.append ih
  · split at q <;> try cases q
    rename_i xs n hz
    obtain ⟨a, vs, rfl, h1, h2⟩ := rd
    simp only [RepT] at re
    refine .inr (.inl ⟨a, n, vs, rfl, re, h1, hz.1, hz.2.1, ?_, fun p np => PR.lst sm k ?_ np⟩)
    · rw [← h2.length]; exact SZ_le hz.2.2
    · generalize n.toNat = m
      induction m with
      | zero => simp [Reps]
      | succ m ih =>
        rw [List.replicate_succ, List.replicate_succ, List.flatten_cons, List.flatten_cons]
        exact h2.append ih
theorem ok_fdiv : Ok2 K (rI CDiv fun i j => .int (i / j)) pFdiv := by
  intro M H d e v u res Q sm rd re q k
  cases d <;> cases e <;> simp only [pFdiv] at q <;> try cases q
  split at q <;> try cases q
  rename_i hz
  simp only [RepT] at rd re
  exact ⟨_, _, rd, re, hz, PR.val0 sm k (by simp [Rep])⟩
theorem ok_mod : Ok2 K (rI (fun _ j => 0 < j) fun i j => .int (i % j)) pMod := by
  intro M H d e v u res Q sm rd re q k
  cases d <;> cases e <;> simp only [pMod] at q <;> try cases q
  split at q <;> try cases q
  rename_i hz
  simp only [RepT] at rd re
  exact ⟨_, _, rd, re, hz, PR.val0 sm k (by simp [Rep])⟩
theorem ok_pow : Ok2 K (rI CPow fun i j => .int (i ^ j.toNat)) pPow := by
  intro M H d e v u res Q sm rd re q k
  cases d <;> cases e <;> simp only [pPow] at q <;> try cases q
  split at q <;> try cases q
  rename_i hz
  simp only [RepT] at rd re
  exact ⟨_, _, rd, re, hz, PR.val0 sm k (by simp [Rep])⟩
theorem deq_ok {M H : Hp} {d e : D} {v u : V} {b : Bool} (rd : RepT K M H d v) (re : RepT K M H e u) (h : deq d e = some b) : scal v u = true ∧ decide (v = u) = b := by
  cases d <;> cases e <;> simp only [deq] at h <;> try cases h
  all_goals (simp only [RepT] at rd re; subst rd; subst re)
  all_goals first
    | exact ⟨rfl, by simp⟩
    | exact ⟨rfl, rfl⟩
mutual
theorem dp_rep {M H : Hp} (sm : Same M H) : ∀ {d : D} {v : V} {x : PyData}, Rep K M d v → toPy d = some x → Dp K H v x
  | .non, v, x, r, e => by simp only [Rep] at r; subst r; cases e; exact .non
  | .bl b, v, x, r, e => by simp only [Rep] at r; subst r; cases e; exact .bl b
  | .int i, v, x, r, e => by simp only [Rep] at r; subst r; cases e; exact .int i
  | .str z, v, x, r, e => by simp only [Rep] at r; subst r; cases e; exact .str z
  | .tup xs, v, x, r, e => by
    simp only [Rep] at r
    obtain ⟨a, vs, rfl, h1, h2⟩ := r
    rw [toPy] at e
    cases q : toPys xs with
    | none => rw [q] at e; cases e
    | some ys => rw [q] at e; cases e; exact .tup (SqT.up sm h1) (dp_reps sm h2 q)
  | .lst xs, v, x, r, e => by
    simp only [Rep] at r
    obtain ⟨a, vs, rfl, h1, h2⟩ := r
    rw [toPy] at e
    cases q : toPys xs with
    | none => rw [q] at e; cases e
    | some ys => rw [q] at e; cases e; exact .lst (SqL.of (sm _ _ h1)) (dp_reps sm h2 q)
  | .scr ns, v, x, r, e => by rw [toPy] at e; cases e
  | .dct _ _, v, x, r, e => by rw [toPy] at e; cases e
theorem dp_reps {M H : Hp} (sm : Same M H) : ∀ {ds : List D} {vs : List V} {xs : List PyData}, Reps K M ds vs → toPys ds = some xs → DpAll K H vs xs
  | [], vs, xs, r, e => by simp only [Reps] at r; subst r; rw [toPys] at e; cases e; exact .nil
  | d :: ds, vs, xs, r, e => by
    simp only [Reps] at r
    obtain ⟨v, vs', rfl, h1, h2⟩ := r
    rw [toPys] at e
    cases q : toPy d with
    | none => rw [q] at e; cases e
    | some x =>
      cases q2 : toPys ds with
      | none => rw [q, q2] at e; cases e
      | some ys => rw [q, q2] at e; cases e; exact .cons (dp_rep sm h1 q) (dp_reps sm h2 q2)
end
theorem dp_top {M H : Hp} (sm : Same M H) {d : D} {v : V} {x : PyData} (r : RepT K M H d v) (e : toPy d = some x) : Dp K H v x := by
  cases d with
  | lst xs =>
    obtain ⟨a, vs, rfl, h1, h2⟩ := r
    rw [toPy] at e
    cases q : toPys xs with
    | none => rw [q] at e; cases e
    | some ys => rw [q] at e; cases e; exact .lst (SqL.of h1) (dp_reps sm h2 q)
  | tup xs => exact dp_rep sm (by simpa only [Rep, RepT] using r) e
  | non => exact dp_rep sm (by simpa only [Rep, RepT] using r) e
  | bl b => exact dp_rep sm (by simpa only [Rep, RepT] using r) e
  | int i => exact dp_rep sm (by simpa only [Rep, RepT] using r) e
  | str z => exact dp_rep sm (by simpa only [Rep, RepT] using r) e
  | scr ns => rw [toPy] at e; cases e
  | dct ks ds => rw [toPy] at e; cases e
mutual
theorem py_plain : ∀ {d : D} {x : PyData}, toPy d = some x → x.plain = true
  | .non, x, e => by cases e; rfl
  | .bl b, x, e => by cases e; rfl
  | .int i, x, e => by cases e; rfl
  | .str z, x, e => by cases e; rfl
  | .tup xs, x, e => by
    rw [toPy] at e
    cases q : toPys xs with
    | none => rw [q] at e; cases e
    | some ys => rw [q] at e; cases e; exact pys_plain q
  | .lst xs, x, e => by
    rw [toPy] at e
    cases q : toPys xs with
    | none => rw [q] at e; cases e
    | some ys => rw [q] at e; cases e; exact pys_plain q
  | .scr ns, x, e => by rw [toPy] at e; cases e
theorem pys_plain : ∀ {ds : List D} {xs : List PyData}, toPys ds = some xs → PyData.plainAll xs = true
  | [], xs, e => by rw [toPys] at e; cases e; rfl
  | d :: ds, xs, e => by
    rw [toPys] at e
    cases q : toPy d with
    | none => rw [q] at e; cases e
    | some x =>
      cases q2 : toPys ds with
      | none => rw [q, q2] at e; cases e
      | some ys => rw [q, q2] at e; cases e; simp only [PyData.plainAll, py_plain q, pys_plain q2, Bool.and_self]
end
theorem deqD_ok {M H : Hp} (sm : Same M H) {d e : D} {v u : V} {k : Bool} (rd : RepT K M H d v) (re : RepT K M H e u) (h : deqD d e = some k) : ∃ x y, Dp K H v x ∧ Dp K H u y ∧ x.plain = true ∧ y.plain = true ∧ x.depth ≤ 64 ∧ k = PyData.eqv x y := by
  unfold deqD at h
  cases q : toPy d with
  | none => rw [q] at h; cases h
  | some x =>
    cases q2 : toPy e with
    | none => rw [q, q2] at h; cases h
    | some y =>
      rw [q, q2] at h
      simp only at h
      split at h
      · rename_i c
        exact ⟨x, y, dp_top sm rd q, dp_top sm re q2, py_plain q, py_plain q2, c, (Option.some.inj h).symm⟩
      · cases h
def rEqP (K : PySem.W.Frag) : R2 := fun x y H Q => ∃ d e, Dp K H x d ∧ Dp K H y e ∧ d.plain = true ∧ e.plain = true ∧ d.depth ≤ 64 ∧ Q (.bl (PyData.eqv d e)) H
def rNeP (K : PySem.W.Frag) : R2 := fun x y H Q => ∃ d e, Dp K H x d ∧ Dp K H y e ∧ d.plain = true ∧ e.plain = true ∧ d.depth ≤ 64 ∧ Q (.bl (!PyData.eqv d e)) H
theorem op_eqP {X : Cx} (hu : X.A.units + 64 < cLine) : OpR X (compareOp .Eq) (rEqP X.K) := by
  intro pins s σ H x y v u Q I rx ry h
  obtain ⟨d, e, hd, he, pd, pe, hz, q⟩ := h
  obtain ⟨as, r1⟩ := Dp.reads I d x v hd rx
  obtain ⟨bs, r2⟩ := Dp.reads I e y u he ry
  exact SeqAt.eq_plain r1 r2 pd pe (by have := Nat.min_le_left d.depth e.depth; omega) ⟨.bl _, H, I, rfl, q⟩
theorem op_neP {X : Cx} (hu : X.A.units + 64 < cLine) : OpR X (compareOp .NotEq) (rNeP X.K) := by
  intro pins s σ H x y v u Q I rx ry h
  obtain ⟨d, e, hd, he, pd, pe, hz, q⟩ := h
  obtain ⟨as, r1⟩ := Dp.reads I d x v hd rx
  obtain ⟨bs, r2⟩ := Dp.reads I e y u he ry
  exact SeqAt.ne_plain r1 r2 pd pe (by have := Nat.min_le_left d.depth e.depth; omega) ⟨.bl _, H, I, rfl, q⟩
theorem ok_eq : Ok2 K (fun x y H Q => rEq x y H Q ∨ rEqP K x y H Q) (p2 .eq) := by
  intro M H d e v u res Q sm rd re q k
  obtain ⟨b, h1, h2⟩ := bnd q
  subst h2
  unfold eqD at h1
  cases h0 : deq d e with
  | some b' =>
    rw [h0] at h1
    cases h1
    obtain ⟨h3, h4⟩ := deq_ok rd re h0
    refine .inl ⟨h3, ?_⟩
    rw [h4]
    exact PR.val0 sm k (by simp [Rep])
  | none =>
    rw [h0] at h1
    obtain ⟨x, y, a1, a2, a3, a4, a5, rfl⟩ := deqD_ok sm rd re h1
    exact .inr ⟨x, y, a1, a2, a3, a4, a5, PR.val0 sm k (by simp [Rep])⟩
theorem ok_ne : Ok2 K (fun x y H Q => rNe x y H Q ∨ rNeP K x y H Q) (p2 .ne) := by
  intro M H d e v u res Q sm rd re q k
  obtain ⟨b, h1, h2⟩ := bnd q
  subst h2
  unfold eqD at h1
  cases h0 : deq d e with
  | some b' =>
    rw [h0] at h1
    cases h1
    obtain ⟨h3, h4⟩ := deq_ok rd re h0
    refine .inl ⟨h3, ?_⟩
    rw [h4]
    exact PR.val0 sm k (by simp [Rep])
  | none =>
    rw [h0] at h1
    obtain ⟨x, y, a1, a2, a3, a4, a5, rfl⟩ := deqD_ok sm rd re h1
    exact .inr ⟨x, y, a1, a2, a3, a4, a5, PR.val0 sm k (by simp [Rep])⟩
theorem atI_reps {M : Hp} {ds : List D} {vs : List V} {i : Int} {d : D} (h : Reps K M ds vs) (e : atI ds i = some d) : ∃ v, atI vs i = some v ∧ Rep K M d v := by
  unfold atI at e ⊢
  rw [← h.length]
  cases q : ixN ds.length i with
  | none => rw [q] at e; cases e
  | some j =>
    rw [q] at e
    exact h.get e
theorem ok_ix : Ok2 K (rIx K) pIx := by
  intro M H d e v u res Q sm rd re q k
  cases d <;> cases e <;> simp only [pIx] at q <;> try cases q
  · split at q <;> try cases q
    rename_i z i hz
    obtain ⟨c, h1, h2⟩ := bnd q
    subst h2
    simp only [RepT] at rd re
    exact .inr (.inr ⟨z, i, c, rd, re, SZ_le hz, h1, PR.val0 sm k (by simp [Rep])⟩)
  · rename_i xs i
    obtain ⟨c, h1, h2⟩ := bnd q
    subst h2
    obtain ⟨a, vs, rfl, h3, h4⟩ := rd
    simp only [RepT] at re
    obtain ⟨w, h5, h6⟩ := atI_reps h4 h1
    exact .inr (.inl ⟨a, vs, i, w, rfl, re, SqT.up sm h3, h5, PR.val0 sm k h6⟩)
  · rename_i xs i
    obtain ⟨c, h1, h2⟩ := bnd q
    subst h2
    obtain ⟨a, vs, rfl, h3, h4⟩ := rd
    simp only [RepT] at re
    obtain ⟨w, h5, h6⟩ := atI_reps h4 h1
    exact .inl ⟨a, vs, i, w, rfl, re, SqL.of h3, h5, PR.val0 sm k h6⟩
theorem ok_max : Ok2 K (fun x y H Q => ∃ i j, [x, y] = [V.int i, V.int j] ∧ Q (.int (if j > i then j else i)) H) pMax := by
  intro M H d e v u res Q sm rd re q k
  cases d <;> cases e <;> simp only [pMax] at q <;> try cases q
  simp only [RepT] at rd re
  subst rd; subst re
  exact ⟨_, _, rfl, PR.val0 sm k (by simp [Rep])⟩
theorem ok_min : Ok2 K (fun x y H Q => ∃ i j, [x, y] = [V.int i, V.int j] ∧ Q (.int (if j < i then j else i)) H) pMin := by
  intro M H d e v u res Q sm rd re q k
  cases d <;> cases e <;> simp only [pMin] at q <;> try cases q
  simp only [RepT] at rd re
  subst rd; subst re
  exact ⟨_, _, rfl, PR.val0 sm k (by simp [Rep])⟩
theorem intsD_ok {M : Hp} : ∀ {ds : List D} {vs : List V} {ns : List Int}, Reps K M ds vs → intsD ds = some ns → vs = ns.map V.int
  | [], vs, ns, h, e => by
    simp only [Reps] at h; subst h
    simp only [intsD, Option.some.injEq] at e; subst e; rfl
  | d :: ds, vs, ns, h, e => by
    simp only [Reps] at h
    obtain ⟨v, vs', rfl, h1, h2⟩ := h
    cases d <;> simp only [intsD] at e <;> try cases e
    rename_i i
    cases q : intsD ds with
    | none => rw [q] at e; cases e
    | some ms =>
      rw [q] at e
      cases e
      simp only [Rep] at h1
      rw [h1, intsD_ok h2 q]
      rfl
theorem blsD_ok {M : Hp} : ∀ {ds : List D} {vs : List V} {ns : List Bool}, Reps K M ds vs → blsD ds = some ns → vs = ns.map V.bl
  | [], vs, ns, h, e => by
    simp only [Reps] at h; subst h
    simp only [blsD, Option.some.injEq] at e; subst e; rfl
  | d :: ds, vs, ns, h, e => by
    simp only [Reps] at h
    obtain ⟨v, vs', rfl, h1, h2⟩ := h
    cases d <;> simp only [blsD] at e <;> try cases e
    rename_i i
    cases q : blsD ds with
    | none => rw [q] at e; cases e
    | some ms =>
      rw [q] at e
      cases e
      simp only [Rep] at h1
      rw [h1, blsD_ok h2 q]
      rfl
/-! one operand -/
theorem ok_len : Ok1 K (fun v H Q => ∃ x n, [v] = [x] ∧ LenV K x H n ∧ Q (.int n) H) (p1 .len) := by
  intro M H d v res Q sm rd q k
  cases d <;> simp only [p1, pLen] at q <;> try cases q
  · split at q <;> try cases q
    rename_i z hz
    simp only [RepT] at rd
    subst rd
    exact ⟨_, z.length, rfl, ⟨SZ_le hz, rfl⟩, PR.val0 sm k (by simp [Rep])⟩
  · rename_i xs
    obtain ⟨a, vs, rfl, h1, h2⟩ := rd
    exact ⟨_, vs.length, rfl, .inr ⟨vs, SqT.up sm h1, rfl⟩, PR.val0 sm k (by simp [Rep, h2.length])⟩
  · rename_i xs
    obtain ⟨a, vs, rfl, h1, h2⟩ := rd
    exact ⟨_, vs.length, rfl, .inl ⟨vs, SqL.of h1, rfl⟩, PR.val0 sm k (by simp [Rep, h2.length])⟩
  · rename_i ns
    obtain ⟨a, rfl, h1⟩ := rd
    exact ⟨_, ns.length, rfl, .inl ⟨_, sm.seq h1, by simp⟩, PR.val0 sm k (by simp [Rep])⟩
theorem ok_abs : Ok1 K (fun v H Q => ∃ i, [v] = [V.int i] ∧ Q (.int (if i < 0 then -i else i)) H) (p1 .abs) := by
  intro M H d v res Q sm rd q k
  cases d <;> simp only [p1] at q <;> try cases q
  simp only [RepT] at rd
  subst rd
  exact ⟨_, rfl, PR.val0 sm k (by simp [Rep])⟩
theorem ok_int : Ok1 K (fun v H Q => ((∃ i, [v] = [V.int i] ∧ Q (.int i) H) ∨ ∃ k, [v] = [V.bl k] ∧ Q (.int (if k then 1 else 0)) H) ∨ ∃ a n, [v] = [V.str a] ∧ PySem.intText? a = some n ∧ a.length ≤ 640 ∧ Q (.int n) H) (p1 .int) := by
  intro M H d v res Q sm rd q k
  cases d <;> simp only [p1] at q <;> try cases q
  · simp only [RepT] at rd
    subst rd
    exact .inl (.inr ⟨_, rfl, PR.val0 sm k (by simp [Rep])⟩)
  · simp only [RepT] at rd
    subst rd
    exact .inl (.inl ⟨_, rfl, PR.val0 sm k (by simp [Rep])⟩)
  · rename_i z
    split at q <;> try (cases q; done)
    rename_i hz
    cases e : PySem.intText? z with
    | none => rw [e] at q; cases q
    | some n =>
      rw [e] at q
      cases q
      simp only [RepT] at rd
      subst rd
      exact .inr ⟨z, n, rfl, e, hz, PR.val0 sm k (by simp [Rep])⟩
theorem ok_tupl : Ok1 K (fun v H Q => ∃ p ys, [v] = [V.ref p] ∧ ((SqL K H p ys ∧ GT.MkT H ys Q) ∨ (SqT K H p ys ∧ Q (.ref p) H))) (p1 .tupl) := by
  intro M H d v res Q sm rd q k
  cases d <;> simp only [p1, pTupl] at q <;> try cases q
  · obtain ⟨a, vs, rfl, h1, h2⟩ := rd
    exact ⟨a, vs, rfl, .inr ⟨SqT.up sm h1, PR.val0 sm k (by simp only [Rep]; exact ⟨a, vs, rfl, h1, h2⟩)⟩⟩
  · obtain ⟨a, vs, rfl, h1, h2⟩ := rd
    exact ⟨a, vs, rfl, .inl ⟨SqL.of h1, PR.tup sm k h2⟩⟩
theorem Reps.of_signs {M : Hp} : ∀ {cs : List Nat}, Reps K M (cs.map fun c => D.str ⟨#[c]⟩) (cs.map fun c => V.str ⟨#[c]⟩)
  | [] => by simp [Reps]
  | n :: ns => by
    simp only [List.map_cons, Reps]
    exact ⟨_, _, rfl, by simp [Rep], Reps.of_signs⟩
def rListS (K : PySem.W.Frag) : List V → Hp → VK → Prop := fun vs H Q => ∃ z : Str, vs = [V.str z] ∧ z.length ≤ sizeLine ∧ ∀ l, H l = none → Q (.ref l) (upd H l (.lst (z.cps.toList.map fun c => V.str ⟨#[c]⟩)))
theorem cr_listS {X : Cx} (hc : X.calm = true) : CallR X (.type "list") (rListS X.K) := by
  intro pins s σ H xs us Q I r h
  obtain ⟨z, rfl, hz, q⟩ := h
  obtain ⟨u, rfl, t, rfl⟩ := vals1 r
  refine call_list_str (I.ok.hd hc) z t (fun h' tk acc c' kp e hi => ?_) hz
  have hl : acc.toList.length = z.cps.size := by rw [Array.length_toList]; exact hi.1
  have rv : Vals (z.cps.toList.map fun c => V.str ⟨#[c]⟩) acc.toList := by
    have e : (z.cps.toList.map fun c => V.str ⟨#[c]⟩) = (List.range acc.toList.length).map fun j => V.str ⟨#[z.cps.toList.getD j 0]⟩ := by
      refine List.ext_getElem (by simp [hl, hi.1]) fun j h1 h2 => ?_
      simp only [List.length_map] at h1
      simp [List.getD_eq_getElem?_getD, List.getElem?_eq_getElem h1]
      first | rfl | (rw [Array.getElem?_eq_getElem (by simpa using h1)]; rfl)
    rw [e]
    refine vals_of_get acc.toList _ fun j u hj => ?_
    obtain ⟨c, t, hc, rfl⟩ := hi.2 j u (by rw [← hj, Array.getElem?_toList])
    refine ⟨t, ?_⟩
    have : z.cps.toList.getD j 0 = c := by rw [List.getD_eq_getElem?_getD, Array.getElem?_toList, hc]; rfl
    rw [this]
  refine ⟨.ref s.heap.objs.size, _, I.laid (t' := tk) kp (Nat.le_refl _) (show ObjOk X.prog X.w _ h' _ (.lst _) from ⟨by rw [List.length_map, Array.length_toList]; exact hz, acc.toList, c', rv, ?_⟩), rfl, q _ (I.hok.fresh (Nat.le_refl _))⟩
  rw [e]
theorem ok_list : Ok1 K (fun v H Q => (∃ p ys, [v] = [V.ref p] ∧ (SqL K H p ys ∨ SqT K H p ys) ∧ ∀ l, H l = none → Q (.ref l) (upd H l (.lst ys))) ∨ rListS K [v] H Q) (p1 .list) := by
  intro M H d v res Q sm rd q k
  cases d <;> simp only [p1, pList] at q <;> try cases q
  · rename_i z
    split at q <;> try (cases q; done)
    rename_i hz
    cases q
    simp only [RepT] at rd
    subst rd
    exact .inr ⟨z, rfl, SZ_le hz, fun l nl => PR.lst sm k Reps.of_signs nl⟩
  · obtain ⟨a, vs, rfl, h1, h2⟩ := rd
    exact .inl ⟨a, vs, rfl, .inr (SqT.up sm h1), fun l nl => PR.lst sm k h2 nl⟩
  · obtain ⟨a, vs, rfl, h1, h2⟩ := rd
    exact .inl ⟨a, vs, rfl, .inl (SqL.of h1), fun l nl => PR.lst sm k h2 nl⟩
  · obtain ⟨a, rfl, h1⟩ := rd
    exact .inl ⟨a, _, rfl, .inl (sm.seq h1), fun l nl => PR.lst sm k Reps.of_ints nl⟩
theorem ok_truth : Ok1 K (fun v H Q => ∃ k, TruV K v H k ∧ Q (.bl k) H) (p1 .truth) := by
  intro M H d v res Q sm rd q k
  cases d <;> simp only [p1] at q <;> try cases q
  · simp only [RepT] at rd; subst rd
    exact ⟨false, rfl, PR.val0 sm k (by simp [Rep])⟩
  · simp only [RepT] at rd; subst rd
    exact ⟨_, rfl, PR.val0 sm k (by simp [Rep])⟩
  · simp only [RepT] at rd; subst rd
    exact ⟨_, rfl, PR.val0 sm k (by simp [Rep])⟩
  · split at q <;> try cases q
    rename_i z hz
    simp only [RepT] at rd; subst rd
    exact ⟨_, ⟨SZ_le hz, rfl⟩, PR.val0 sm k (by simp [Rep])⟩
  · obtain ⟨a, vs, rfl, h1, h2⟩ := rd
    refine ⟨_, .inr (.inl ⟨vs, SqT.up sm h1, rfl⟩), PR.val0 sm k ?_⟩
    simp [Rep, h2.isEmpty]
  · obtain ⟨a, vs, rfl, h1, h2⟩ := rd
    refine ⟨_, .inl ⟨vs, SqL.of h1, rfl⟩, PR.val0 sm k ?_⟩
    simp [Rep, h2.isEmpty]
theorem ok_isN : Ok1 K (fun v H Q => Q (.bl (decide (v = .non))) H) (p1 .isN) := by
  intro M H d v res Q sm rd q k
  cases d <;> simp only [p1] at q <;> cases q <;> first
    | (simp only [RepT] at rd; subst rd; exact PR.val0 sm k (by simp [Rep]))
    | (obtain ⟨a, vs, rfl, _⟩ := rd; exact PR.val0 sm k (by simp [Rep]))
    | (obtain ⟨a, rfl, _⟩ := rd; exact PR.val0 sm k (by simp [Rep]))
/-- sum of a tuple of ints -/
def rSumT (K : PySem.W.Frag) : List V → Hp → VK → Prop := fun vs H Q => ∃ (a : Addr) (ns : List Int), vs = [V.ref a] ∧ SqT K H a (ns.map V.int) ∧ Q (.int ns.sum) H
theorem cr_sumT {X : Cx} (hc : X.calm = true) : CallR X (.builtin "sum") (rSumT X.K) := by
  intro pins s σ H vs us Q I r h
  obtain ⟨a, ns, rfl, hs, q⟩ := h
  obtain ⟨its, rv, ht, _⟩ := I.tuple hs
  rw [Vals.ref1 r]
  have hi : IntsAre its ns := rv.ints
  obtain ⟨xs, e⟩ := hi.allInts.items
  have hn : numsOf (intItems xs).toList = ns := by rw [← e]; exact hi.numsOf
  rw [nums_intItems] at hn
  rw [e] at ht
  refine PySem.W.ktm_sumG (I.ok.hd hc) ht fun h' tk t' hk => ?_
  rw [preSum_eq, List.take_of_length_le (by simp), hn]
  exact ⟨.int _, H, I.kept hk, ⟨_, rfl⟩, q⟩
theorem ok_sum : Ok1 K (fun v H Q => rSum K [v] H Q ∨ rSumT K [v] H Q) (p1 .sum) := by
  intro M H d v res Q sm rd q k
  cases d <;> simp only [p1] at q <;> try (cases q; done)
  · obtain ⟨a, vs, rfl, h1, h2⟩ := rd
    obtain ⟨ns, h3, h4⟩ := bnd q
    subst h4
    have e := intsD_ok h2 h3
    subst e
    exact .inr ⟨a, ns, rfl, SqT.up sm h1, PR.val0 sm k (by simp [Rep])⟩
  · obtain ⟨a, vs, rfl, h1, h2⟩ := rd
    obtain ⟨ns, h3, h4⟩ := bnd q
    subst h4
    have e := intsD_ok h2 h3
    subst e
    exact .inl ⟨a, ns, rfl, SqL.of h1, PR.val0 sm k (by simp [Rep])⟩
theorem ok_any : Ok1 K (fun v H Q => rAny K [v] H Q) (p1 .any) := by
  intro M H d v res Q sm rd q k
  cases d <;> simp only [p1] at q <;> try cases q
  obtain ⟨a, vs, rfl, h1, h2⟩ := rd
  obtain ⟨ns, h3, h4⟩ := bnd q
  subst h4
  have e := blsD_ok h2 h3
  subst e
  exact ⟨a, ns, rfl, SqL.of h1, PR.val0 sm k (by simp [Rep])⟩
theorem ok_all : Ok1 K (fun v H Q => rAll K [v] H Q) (p1 .all) := by
  intro M H d v res Q sm rd q k
  cases d <;> simp only [p1] at q <;> try cases q
  obtain ⟨a, vs, rfl, h1, h2⟩ := rd
  obtain ⟨ns, h3, h4⟩ := bnd q
  subst h4
  have e := blsD_ok h2 h3
  subst e
  exact ⟨a, ns, rfl, SqL.of h1, PR.val0 sm k (by simp [Rep])⟩
theorem ok_cmp (f : Int → Int → Bool) : Ok2 K (fun x y H Q => rI0 (fun i j => .bl (f i j)) x y H Q ∨ rLexO K f x y H Q) (pCmp f) := by
  intro M H d e v u res Q sm rd re q k
  cases d <;> cases e <;> simp only [pCmp] at q <;> try cases q
  · simp only [RepT] at rd re
    exact .inl ⟨_, _, rd, re, PR.val0 sm k (by simp [Rep])⟩
  · rename_i xs ys
    obtain ⟨a, vs, rfl, h1, h2⟩ := rd
    obtain ⟨b, ws, rfl, h3, h4⟩ := re
    cases q1 : intsD xs with
    | none => rw [q1] at q; cases q
    | some ns =>
      rw [q1] at q
      cases q2 : intsD ys with
      | none => rw [q2] at q; cases q
      | some ms =>
        rw [q2] at q
        cases q
        have e1 := intsD_ok h2 q1
        have e2 := intsD_ok h4 q2
        subst e1; subst e2
        exact .inr ⟨a, b, ns, ms, rfl, rfl, SqT.up sm h1, SqT.up sm h3, PR.val0 sm k (by simp [Rep])⟩
theorem ok_leL : Ok2 K (rLexL K (fun i j => decide (i ≤ j))) (p2 .leL) := by
  intro M H d e v u res Q sm rd re q k
  cases d <;> cases e <;> simp only [p2, pLeL] at q <;> try cases q
  rename_i xs ys
  obtain ⟨a, vs, rfl, h1, h2⟩ := rd
  obtain ⟨b, ws, rfl, h3, h4⟩ := re
  cases q1 : intsD xs with
  | none => rw [q1] at q; cases q
  | some ns =>
    rw [q1] at q
    cases q2 : intsD ys with
    | none => rw [q2] at q; cases q
    | some ms =>
      rw [q2] at q
      cases q
      have e1 := intsD_ok h2 q1
      have e2 := intsD_ok h4 q2
      subst e1; subst e2
      exact ⟨a, b, ns, ms, rfl, rfl, SqL.of h1, SqL.of h3, PR.val0 sm k (by simp [Rep])⟩
def isiName : Nat → String
  | 0 => "tuple" | 1 => "bool" | 2 => "str" | _ => "int"
theorem ok_isi (t : Nat) (ht : t < 4) : Ok1 K (fun v H Q => rIsi K [v, .ty (isiName t)] H Q) (p1 (.isi t)) := by
  intro M H d v res Q sm rd q k
  have go : ∀ (ty : String) (b : Bool), TyX K H v (.type ty) → kitB ty (isiName t) = some b → res = .val (.bl b) → rIsi K [v, .ty (isiName t)] H Q := fun ty b h1 h2 h3 => by
    subst h3
    exact ⟨_, _, _, _, b, rfl, .ty _, h1, kit_ty h2, PR.val0 sm k (by simp [Rep])⟩
  have tt : ∀ {a vs}, GT.SqN K M a vs → v = .ref a → TyX K H v (.type "tuple") := fun {a vs} h e => by
    subst e
    rcases h with ⟨o, h, _⟩ | ⟨o, its, n, h1, h2, _⟩
    · exact .fTuple (sm _ _ h)
    · exact .kTuple h1 h2
  rcases t with _ | _ | _ | _ | t
  · cases d <;> simp only [p1, pIsi] at q <;> cases q <;> first
      | (simp only [RepT] at rd; subst rd; first
          | exact go "NoneType" _ (.base .non) (by decide +kernel) rfl | exact go "bool" _ (.base (.bl _)) (by decide +kernel) rfl | exact go "int" _ (.base (.int _)) (by decide +kernel) rfl | exact go "str" _ (.base (.str _)) (by decide +kernel) rfl)
      | (obtain ⟨a, vs, e, h1, _⟩ := rd; first
          | exact go "tuple" _ (tt h1 e) (by decide +kernel) rfl
          | (subst e; exact go "list" _ (.base (.lst h1)) (by decide +kernel) rfl))
  · cases d <;> simp only [p1, pIsi] at q <;> cases q <;> first
      | (simp only [RepT] at rd; subst rd; first
          | exact go "NoneType" _ (.base .non) (by decide +kernel) rfl | exact go "bool" _ (.base (.bl _)) (by decide +kernel) rfl | exact go "int" _ (.base (.int _)) (by decide +kernel) rfl | exact go "str" _ (.base (.str _)) (by decide +kernel) rfl)
      | (obtain ⟨a, vs, e, h1, _⟩ := rd; first
          | exact go "tuple" _ (tt h1 e) (by decide +kernel) rfl
          | (subst e; exact go "list" _ (.base (.lst h1)) (by decide +kernel) rfl))
  · cases d <;> simp only [p1, pIsi] at q <;> cases q <;> first
      | (simp only [RepT] at rd; subst rd; first
          | exact go "NoneType" _ (.base .non) (by decide +kernel) rfl | exact go "bool" _ (.base (.bl _)) (by decide +kernel) rfl | exact go "int" _ (.base (.int _)) (by decide +kernel) rfl | exact go "str" _ (.base (.str _)) (by decide +kernel) rfl)
      | (obtain ⟨a, vs, e, h1, _⟩ := rd; first
          | exact go "tuple" _ (tt h1 e) (by decide +kernel) rfl
          | (subst e; exact go "list" _ (.base (.lst h1)) (by decide +kernel) rfl))
  · cases d <;> simp only [p1, pIsi] at q <;> cases q <;> first
      | (simp only [RepT] at rd; subst rd; first
          | exact go "NoneType" _ (.base .non) (by decide +kernel) rfl | exact go "bool" _ (.base (.bl _)) (by decide +kernel) rfl | exact go "int" _ (.base (.int _)) (by decide +kernel) rfl | exact go "str" _ (.base (.str _)) (by decide +kernel) rfl)
      | (obtain ⟨a, vs, e, h1, _⟩ := rd; first
          | exact go "tuple" _ (tt h1 e) (by decide +kernel) rfl
          | (subst e; exact go "list" _ (.base (.lst h1)) (by decide +kernel) rfl))
  · omega
end
end G
namespace G
open PySem PySem.Spec PyProof.Rows L2
variable [Tb]
section
variable {C : Cfg} {W : WX} {M H M1 H1 : Hp} {σ : L2.St} {nv nv1 : Nv} {Φ : Fn} {shs : Nat → Nat → Shape}
/-! ### argument lists -/
def OpdsR (K : PySem.W.Frag) (M : Hp) (σ : L2.St) : List (D ⊕ Nat) → List V → Prop
  | [], vs => vs = []
  | o :: os, vs => ∃ v vs', vs = v :: vs' ∧ OpdR K M σ o v ∧ OpdsR K M σ os vs'
theorem OpdsR.mono {K : PySem.W.Frag} {M M' : Hp} (e : Same M M') : ∀ {os : List (D ⊕ Nat)} {vs : List V}, OpdsR K M σ os vs → OpdsR K M' σ os vs
  | [], _, h => h
  | o :: os, _, h => by
    obtain ⟨v, vs', e1, e2, e3⟩ := h
    exact ⟨v, vs', e1, e2.mono e, OpdsR.mono e e3⟩
theorem OpdsR.length {K : PySem.W.Frag} {M : Hp} : ∀ {os : List (D ⊕ Nat)} {vs : List V}, OpdsR K M σ os vs → os.length = vs.length
  | [], _, h => by have h : _ = [] := h; subst h; rfl
  | o :: os, _, h => by
    obtain ⟨v, vs', rfl, e2, e3⟩ := h
    simp [OpdsR.length e3]
theorem OpdsR.inls {K : PySem.W.Frag} {M : Hp} : ∀ {os : List (D ⊕ Nat)} {vs : List V} {ds : List D}, OpdsR K M σ os vs → inls os = some ds → Reps K M ds vs
  | [], vs, ds, h, e => by
    have h : _ = [] := h; subst h
    simp only [G.inls, Option.some.injEq] at e; subst e; simp [Reps]
  | o :: os, vs, ds, h, e => by
    obtain ⟨v, vs', rfl, e2, e3⟩ := h
    cases o with
    | inl d =>
      simp only [G.inls] at e
      cases q : G.inls os with
      | none => rw [q] at e; cases e
      | some ds' =>
        rw [q] at e
        cases e
        simp only [Reps]
        exact ⟨v, vs', rfl, e2, OpdsR.inls e3 q⟩
    | inr i => cases e
def SndA (C : Cfg) (W : WX) (xs : List Expr) (f : Nv → Rs (List (D ⊕ Nat))) : Prop := ∀ M H σ nv Q, StR C.K M H σ nv → DoneX C W M H σ nv (f nv) (fun os nv' M' H' => ∀ vs, OpdsR C.K M' σ os vs → Q vs H') → tA C W xs σ H Q
def noStar : Expr → Bool
  | .Starred _ _ => false
  | _ => true
theorem star_cons {x : Expr} (h : noStar x = true) (xs : List Expr) (env : Env) : starEach (x :: xs) env = (false, eval x env) :: starEach xs env := by
  cases x <;> first | rfl | (cases h)
def noStars (xs : List Expr) : Bool := xs.all noStar
theorem noStars_cons {x : Expr} {xs : List Expr} (h : noStars (x :: xs) = true) : noStar x = true ∧ noStars xs = true := by
  simpa [noStars] using h
theorem plain_back : ∀ {xs : List Expr} {env : Env} {pos : Pos}, noStars xs = true → (backTo pos (starEach xs env)).any (·.1) = false
  | [], _, _, _ => rfl
  | x :: xs, env, pos, h => by
    obtain ⟨h1, h2⟩ := noStars_cons h
    have ih := plain_back (xs := xs) (env := env) (pos := pos) h2
    rw [star_cons h1]
    unfold backTo at ih ⊢
    simp only [List.map_cons, List.any_cons, Bool.false_or]
    exact ih
theorem few_back {xs : List Expr} {env : Env} {pos : Pos} (h : noStars xs = true) : (backTo pos (starEach xs env)).all (fun x => !x.1) = true := by
  have := plain_back (env := env) (pos := pos) h
  rw [List.any_eq_false] at this
  rw [List.all_eq_true]
  intro x hx
  have := this x hx
  simpa using this
theorem sndA_nil : SndA C W [] (evOs Φ shs []) := by
  intro M H σ nv Q st hd
  refine tA.by (fun X hX => pa_nil) ?_
  have hd' : ∀ M' H', Step M H (Own σ nv) M' H' (Own σ nv) → StR C.K M' H' σ nv → ∀ vs, OpdsR C.K M' σ [] vs → Q vs H' := hd
  exact hd' M H (Step.refl _ _ _) st [] rfl
theorem sndA_cons {x : Expr} {xs : List Expr} {e : E} {es : List E} (ns : noStar x = true) (he : (∃ i, e = .brw i ∧ ∃ y pos, x = .Name y pos ∧ okName C.N C.sc i y = true) ∨ ((∀ i, e ≠ .brw i) ∧ SndE C W x (evE Φ shs e)))
    (hs : SndA C W xs (evOs Φ shs es)) : SndA C W (x :: xs) (evOs Φ shs (e :: es)) := by
  intro M H σ nv Q st hd
  refine tA.by (fun X hX => pa_cons (PEo hX x) (PAo hX xs) (star_cons ns _ _)) ?_
  rw [evOs] at hd
  rcases he with ⟨i, rfl, y, pos, rfl, ok⟩ | ⟨ne, he⟩
  · simp only [argStep] at hd
    split at hd
    · rename_i s q
      obtain ⟨v, e1, _⟩ := st.get i _ q
      refine tE.by (pe_name ok) ⟨v, e1, ?_⟩
      refine hs M H σ nv _ st ?_
      cases e3 : evOs Φ shs es nv with
      | ok os nv2 =>
        rw [e3] at hd
        intro M2 H2 s2 st2 vs hv
        exact hd M2 H2 s2 st2 (v :: vs) ⟨v, vs, rfl, e1, hv⟩
      | exc c as nv2 => rw [e3] at hd; exact hd
      | stuck => rw [e3] at hd; exact hd
    · exact hd.elim
  · have e1 : argStep e nv (evE Φ shs e nv) (evOs Φ shs es) = (evE Φ shs e nv).bind fun r nv1 => (evOs Φ shs es nv1).bind fun os nv2 => .ok (.inl r.frz :: os) nv2 := by
      cases e <;> first | rfl | exact absurd rfl (ne _)
    rw [e1] at hd
    refine SndE.then he st hd fun r nv1 v M1 H1 e2 st1 rp s1 hd1 => ?_
    refine hs M1 H1 σ nv1 _ st1 ?_
    cases e3 : evOs Φ shs es nv1 with
    | ok os nv2 =>
      rw [e3] at hd1
      intro M2 H2 s2 st2 vs hv
      exact hd1 M2 H2 s2 st2 (v :: vs) ⟨v, vs, rfl, Rep.mono s2.mm rp, hv⟩
    | exc c as nv2 => rw [e3] at hd1; exact hd1
    | stuck => rw [e3] at hd1; exact hd1
end
end G
namespace G
open PySem PySem.Spec PyProof.Rows L2
variable [Tb]
section
variable {C : Cfg} {W : WX} {M H M1 H1 : Hp} {σ : L2.St} {nv nv1 : Nv} {Φ : Fn} {shs : Nat → Nat → Shape}
/-! ### leaves -/
theorem snd_const {x : Expr} {v : V} {d : D} (pe : ∀ X, AtE C W X → PE X x (tC v)) (rp : ∀ M, Rep C.K M d v) : SndE C W x (fun nv => .ok (.val d) nv) := by
  intro M H σ nv Q st hd
  refine tE.by pe ?_
  exact hd v M H ((Step.refl _ _ _).less fun a h => h.elim id False.elim) st (rp M)
theorem snd_non {i pos} : SndE C W (.Constant .none i pos) (evE Φ shs .non) := by
  have : evE Φ shs .non = fun nv => .ok (.val .non) nv := by funext nv; rw [evE]
  rw [this]
  exact snd_const (fun X hX => pe_non) fun M => by simp [Rep]
theorem snd_bl {b i pos} : SndE C W (.Constant (.bool b) i pos) (evE Φ shs (.bl b)) := by
  have : evE Φ shs (.bl b) = fun nv => .ok (.val (.bl b)) nv := by funext nv; rw [evE]
  rw [this]
  exact snd_const (fun X hX => pe_bl) fun M => by simp [Rep]
theorem snd_int {n i pos} : SndE C W (.Constant (.int n) i pos) (evE Φ shs (.int n)) := by
  have : evE Φ shs (.int n) = fun nv => .ok (.val (.int n)) nv := by funext nv; rw [evE]
  rw [this]
  exact snd_const (fun X hX => pe_int) fun M => by simp [Rep]
theorem snd_str {s i pos} : SndE C W (.Constant (.str s) i pos) (evE Φ shs (.str s)) := by
  have : evE Φ shs (.str s) = fun nv => .ok (.val (.str s)) nv := by funext nv; rw [evE]
  rw [this]
  exact snd_const (fun X hX => pe_str) fun M => by simp [Rep]
theorem own_set {nv : Nv} {i : Nat} {s : Option Sl} (hs : ∀ f ds, s ≠ some (.lv f ds)) {a : Addr} (h : Own σ (nv.set i s) a) : Own σ nv a ∧ ((∃ j, j ≠ i ∧ ∃ f ds, nv[j]? = some (some (.lv f ds)) ∧ σ[j]? = some (some (.ref a))) ∨ TbA a) := by
  rcases h with ⟨j, f, ds, h1, h2⟩ | h
  case inr => exact ⟨.inr h, .inr h⟩
  by_cases e : i = j
  · subst e
    rw [List.getElem?_set] at h1
    split at h1
    · split at h1
      · cases h1; exact absurd rfl (hs _ _)
      · cases h1
    · contradiction
  · rw [List.getElem?_set_ne e] at h1
    exact ⟨.inl ⟨j, f, ds, h1, h2⟩, .inl ⟨j, Ne.symm e, f, ds, h1, h2⟩⟩
/-- an own list is known from now on -/
def frzD : Kd → List D → D
  | .l _, ds => .lst ds
  | .dict ks, ds => .dct ks ds
theorem LoR.rep {K : PySem.W.Frag} {M : Hp} {a : Addr} {o : HO} : ∀ {f : Kd} {ds : List D}, LoR K M f ds o → M a = some o → Rep K M (frzD f ds) (.ref a)
  | .l _, ds, ⟨vs, e, r⟩, h => by subst e; simp only [frzD, Rep]; exact ⟨a, vs, rfl, h, r⟩
  | .dict ks, ds, ⟨vs, e, l, r⟩, h => by subst e; simp only [frzD, Rep]; exact ⟨a, vs, rfl, h, l, r⟩
theorem StR.giveK (st : StR C.K M H σ nv) {i : Nat} {f : Kd} {ds : List D} (q : nv[i]? = some (some (.lv f ds))) {s : Option Sl} (hs : s = none ∨ s = some (.val (frzD f ds))) :
    ∃ a vs, σ[i]? = some (some (.ref a)) ∧ H a = some vs ∧ M a = none ∧ LoR C.K M f ds vs ∧ StR C.K (upd M a vs) H σ (nv.set i s) ∧ ¬ Own σ (nv.set i s) a ∧ Step M H (Own σ nv) (upd M a vs) H (Own σ (nv.set i s)) := by
  obtain ⟨v, e1, a, vs, rfl, e2, e3, e4⟩ := st.get i _ q
  have hs' : ∀ f ds, s ≠ some (.lv f ds) := fun f ds z => by rcases hs with h | h <;> rw [h] at z <;> cases z
  have sm : Same M (upd M a vs) := same_upd e2
  have no : ¬ Own σ (nv.set i s) a := fun z => by
    obtain ⟨_, ⟨j, hj, g, ys, h1, h2⟩ | z⟩ := own_set hs' z
    case inr => exact st.notTab e3 (fun _ => e4.ntbl) z
    exact hj (st.apart j i g f ys ds _ h1 q h2 e1)
  refine ⟨a, vs, e1, e3, e2, e4, ⟨fun b o h => ?_, by simp [st.len], fun j t h => ?_, fun j k g g' xs ys v h1 h2 h3 h4 => ?_, fun p hp => ⟨by rw [upd_ne (fun z => st.notTab e3 (fun _ => e4.ntbl) ⟨p, hp, z⟩)]; exact (st.tb p hp).1, (st.tb p hp).2.ext sm fun _ h => h⟩⟩, no, sm, fun b o h _ => h, fun b h => .inl (own_set hs' h).1, fun b h => h, fun b o h => ?_⟩
  · by_cases hb : b = a
    · subst hb; rw [upd_same] at h; cases h; exact e3
    · rw [upd_ne hb] at h; exact st.ext _ _ h
  · rw [List.getElem?_set] at h
    split at h
    · rename_i e
      subst e
      split at h
      · rcases hs with e | e
        · rw [e] at h; cases h
        · rw [e] at h
          cases h
          refine ⟨_, e1, ?_⟩
          exact LoR.rep (LoR.mono sm e4) upd_same
      · cases h
    · rename_i hij
      obtain ⟨v, h1, h2⟩ := st.get j t h
      refine ⟨v, h1, ?_⟩
      cases t with
      | val d => exact Rep.mono sm h2
      | fn m ds => exact FnR.mono sm h2
      | lv g ys =>
        obtain ⟨b, ws, rfl, h3, h4, h5⟩ := h2
        have : b ≠ a := fun z => hij (st.apart i j f g ds ys _ q h e1 (z ▸ h1))
        exact ⟨b, ws, rfl, by rw [upd_ne this]; exact h3, h4, LoR.mono sm h5⟩
  · have k1 : ∀ j : Nat, (nv.set i s)[j]? = some (some (.lv g xs)) → nv[j]? = some (some (.lv g xs)) := fun j h => by
      by_cases e : i = j
      · subst e
        rw [List.getElem?_set] at h
        split at h
        · split at h
          · cases h; exact absurd rfl (hs' _ _)
          · cases h
        · contradiction
      · rwa [List.getElem?_set_ne e] at h
    have k2 : ∀ j : Nat, (nv.set i s)[j]? = some (some (.lv g' ys)) → nv[j]? = some (some (.lv g' ys)) := fun j h => by
      by_cases e : i = j
      · subst e
        rw [List.getElem?_set] at h
        split at h
        · split at h
          · cases h; exact absurd rfl (hs' _ _)
          · cases h
        · contradiction
      · rwa [List.getElem?_set_ne e] at h
    exact st.apart j k g g' xs ys v (k1 j h1) (k2 k h2) h3 h4
  · by_cases hb : b = a
    · subst hb; exact .inr (.inl (.inl ⟨i, f, ds, q, e1⟩))
    · rw [upd_ne hb] at h; exact .inl h
theorem StR.give (st : StR C.K M H σ nv) {i : Nat} {f : Bool} {ds : List D} (q : nv[i]? = some (some (.lv (.l f) ds))) {s : Option Sl} (hs : s = none ∨ s = some (.val (.lst ds))) :
    ∃ a vs, σ[i]? = some (some (.ref a)) ∧ H a = some (.lst vs) ∧ M a = none ∧ Reps C.K M ds vs ∧ StR C.K (upd M a (.lst vs)) H σ (nv.set i s) ∧ ¬ Own σ (nv.set i s) a ∧ Step M H (Own σ nv) (upd M a (.lst vs)) H (Own σ (nv.set i s)) := by
  obtain ⟨a, o, e1, e2, e3, ⟨vs, rfl, r⟩, h⟩ := st.giveK q hs
  exact ⟨a, vs, e1, e2, e3, r, h⟩
theorem snd_var {i : Nat} {x : Str} {pos : Pos} (h : okName C.N C.sc i x = true) : SndE C W (.Name x pos) (evE Φ shs (.var i)) := by
  intro M H σ nv Q st hd
  refine tE.by (pe_name h) ?_
  rw [evE] at hd
  unfold rdVar at hd
  split at hd
  · rename_i d q
    obtain ⟨v, e1, e2⟩ := st.get i _ q
    exact ⟨v, e1, hd v M H ((Step.refl _ _ _).less fun a h => h.elim id False.elim) st e2⟩
  · rename_i ds q
    obtain ⟨a, vs, e1, e2, e3, e4, st', no, s'⟩ := st.give q (s := some (.val (.lst ds))) (.inr rfl)
    refine ⟨_, e1, hd _ _ H (s'.less fun a h => h.elim id False.elim) st' ?_⟩
    simp only [RR, Rep]
    exact ⟨a, vs, rfl, upd_same, Reps.mono (same_upd e3) e4⟩
  · rename_i ks ds q
    obtain ⟨a, o, e1, e2, e3, e4, st', no, s'⟩ := st.giveK q (s := some (.val (.dct ks ds))) (.inr rfl)
    refine ⟨_, e1, hd _ _ H (s'.less fun a h => h.elim id False.elim) st' ?_⟩
    exact LoR.rep (f := .dict ks) (LoR.mono (same_upd e3) e4) upd_same
  · exact hd.elim
/-- a slot is emptied: its list is free -/
theorem StR.drop (st : StR C.K M H σ nv) (i : Nat) : StR C.K M H σ (nv.set i none) := by
  have k : ∀ j t, (nv.set i none)[j]? = some (some t) → nv[j]? = some (some t) ∧ j ≠ i := fun j t h => by
    by_cases e : i = j
    · subst e
      rw [List.getElem?_set] at h
      split at h
      · split at h
        · cases h
        · cases h
      · contradiction
    · rw [List.getElem?_set_ne e] at h
      exact ⟨h, Ne.symm e⟩
  exact ⟨st.ext, by simp [st.len], fun j t h => st.get j t (k j t h).1, fun j l g g' xs ys v h1 h2 h3 h4 => st.apart j l g g' xs ys v (k _ _ h1).1 (k _ _ h2).1 h3 h4, st.tb⟩
theorem snd_mov {i : Nat} {x : Str} {pos : Pos} (h : okName C.N C.sc i x = true) : SndE C W (.Name x pos) (evE Φ shs (.mov i)) := by
  intro M H σ nv Q st hd
  refine tE.by (pe_name h) ?_
  rw [evE] at hd
  unfold mvVar at hd
  split at hd
  · rename_i d q
    obtain ⟨v, e1, e2⟩ := st.get i _ q
    exact ⟨v, e1, hd v M H ((Step.refl _ _ _).less fun a h => h.elim id False.elim) st e2⟩
  · rename_i ds q
    obtain ⟨a, vs, e1, e2, e3, e4, _, no, _⟩ := st.give q (s := none) (.inl rfl)
    refine ⟨_, e1, hd _ M H ⟨Same.refl _, fun _ _ h _ => h, fun b hb => ?_, fun _ h => h, fun _ _ h => .inl h⟩ (st.drop i) ⟨a, vs, rfl, e2, e3, no, e4⟩⟩
    rcases hb with z | z
    · exact .inl (own_set (fun _ _ z => by cases z) z).1
    · have z' : V.ref a = V.ref b := z
      injection z' with z'
      subst z'
      exact .inl (.inl ⟨i, .l true, ds, q, e1⟩)
  · rename_i ks ds q
    obtain ⟨a, o, e1, e2, e3, e4, st', no, s'⟩ := st.giveK q (s := some (.val (.dct ks ds))) (.inr rfl)
    refine ⟨_, e1, hd _ _ H (s'.less fun a h => h.elim id False.elim) st' ?_⟩
    exact LoR.rep (f := .dict ks) (LoR.mono (same_upd e3) e4) upd_same
  · exact hd.elim
/-! ### displays -/
theorem snd_tup {xs : List Expr} {es : List E} {k : Nat} {pos : Pos} (h : SndA C W xs (evOs Φ shs es)) : SndE C W (.Tuple xs k pos) (evE Φ shs (.tup es)) := by
  intro M H σ nv Q st hd
  refine tE.by (fun X hX => GT.pe_tupN (PAo hX xs)) ?_
  rw [evE] at hd
  refine h M H σ nv _ st ?_
  cases e3 : evOs Φ shs es nv with
  | ok os nv2 =>
    rw [e3] at hd
    intro M2 H2 s2 st2 vs hv
    have hd := DoneE.later hd s2
    cases q : inls os with
    | none => simp only [Rs.bind, q] at hd; exact hd.elim
    | some ds =>
      simp only [Rs.bind, q, Option.bind] at hd
      by_cases hz : ds.length ≤ SZ
      · rw [if_pos hz] at hd
        have rp := OpdsR.inls hv q
        refine ⟨by rw [← rp.length]; exact SZ_le hz, ?_⟩
        exact PR.tup st2.ext (fun v' M' H' p' h' => prim_done hd st2 p' h') rp
      · rw [if_neg hz] at hd; exact hd.elim
  | exc c as nv2 => rw [e3] at hd; exact hd
  | stuck => rw [e3] at hd; exact hd
theorem snd_lst {xs : List Expr} {es : List E} {pos : Pos} (h : SndA C W xs (evOs Φ shs es)) : SndE C W (.List xs pos) (evE Φ shs (.lst es)) := by
  intro M H σ nv Q st hd
  refine tE.by (fun X hX => pe_lst (PAo hX xs)) ?_
  rw [evE] at hd
  refine h M H σ nv _ st ?_
  cases e3 : evOs Φ shs es nv with
  | ok os nv2 =>
    rw [e3] at hd
    intro M2 H2 s2 st2 vs hv
    have hd := DoneE.later hd s2
    cases q : inls os with
    | none => simp only [Rs.bind, q] at hd; exact hd.elim
    | some ds =>
      simp only [Rs.bind, q, Option.bind] at hd
      by_cases hz : ds.length ≤ SZ
      · rw [if_pos hz] at hd
        have rp := OpdsR.inls hv q
        refine ⟨by rw [← rp.length]; exact SZ_le hz, fun p np => ?_⟩
        exact PR.lst st2.ext (fun v' M' H' p' h' => prim_done hd st2 p' h') rp np
      · rw [if_neg hz] at hd; exact hd.elim
  | exc c as nv2 => rw [e3] at hd; exact hd
  | stuck => rw [e3] at hd; exact hd
/-! ### and, or, not, if else -/
theorem bl_of {r : R} {v : V} {b : Bool} (e : r = .val (.bl b)) (h : Rep C.K M r.frz v) : v = .bl b := by
  subst e
  simpa [R.frz, Rep] using h
theorem snd_and {x y : Expr} {a b : E} {whole : Expr} (ha : SndE C W x (evE Φ shs a)) (hb : SndE C W y (evE Φ shs b))
    (pe : ∀ X, AtE C W X → PE X whole (tAndV (tE C W x) (tE C W y))) : SndE C W whole (evE Φ shs (.and_ a b)) := by
  intro M H σ nv Q st hd
  refine tE.by pe ?_
  rw [evE] at hd
  refine SndE.thenE ha st hd fun r nv1 v M1 H1 e1 st1 rp s1 hd1 => ?_
  split at hd1
  · exact ⟨true, bl_of rfl rp, by rw [if_pos rfl]; exact hb M1 H1 σ nv1 Q st1 hd1⟩
  · exact ⟨false, bl_of rfl rp, by rw [if_neg (by decide)]; exact hd1 _ M1 H1 ((Step.refl _ _ _).less fun a h => h.elim id False.elim) st1 (by simp [RR, Rep])⟩
  · exact hd1.elim
theorem snd_or {x y : Expr} {a b : E} {whole : Expr} (ha : SndE C W x (evE Φ shs a)) (hb : SndE C W y (evE Φ shs b))
    (pe : ∀ X, AtE C W X → PE X whole (tOrV (tE C W x) (tE C W y))) : SndE C W whole (evE Φ shs (.or_ a b)) := by
  intro M H σ nv Q st hd
  refine tE.by pe ?_
  rw [evE] at hd
  refine SndE.thenE ha st hd fun r nv1 v M1 H1 e1 st1 rp s1 hd1 => ?_
  split at hd1
  · exact ⟨true, bl_of rfl rp, by rw [if_pos rfl]; exact hd1 _ M1 H1 ((Step.refl _ _ _).less fun a h => h.elim id False.elim) st1 (by simp [RR, Rep])⟩
  · exact ⟨false, bl_of rfl rp, by rw [if_neg (by decide)]; exact hb M1 H1 σ nv1 Q st1 hd1⟩
  · exact hd1.elim
theorem snd_not {x : Expr} {a : E} {pos : Pos} (ha : SndE C W x (evE Φ shs a)) : SndE C W (.UnaryOp .Not x pos) (evE Φ shs (.not_ a)) := by
  intro M H σ nv Q st hd
  refine tE.by (fun X hX => pe_not (PEo hX x)) ?_
  rw [evE] at hd
  refine SndE.thenE ha st hd fun r nv1 v M1 H1 e1 st1 rp s1 hd1 => ?_
  split at hd1
  · rename_i k
    exact ⟨k, bl_of rfl rp, hd1 _ M1 H1 ((Step.refl _ _ _).less fun a h => h.elim id False.elim) st1 (by simp [RR, Rep])⟩
  · exact hd1.elim
/-! ### tests -/
def tst (f : Nv → Rs R) (nv : Nv) : Rs Bool := (f nv).bind fun r nv1 => match r with
  | .val (.bl b) => .ok b nv1
  | _ => .stuck
def SndT (C : Cfg) (W : WX) (x : Expr) (f : Nv → Rs R) : Prop := ∀ M H σ nv (Q : Bool → Hp → Prop), StR C.K M H σ nv → DoneX C W M H σ nv (tst f nv) (fun b nv' M' H' => Q b H') → tT C W x σ H Q
theorem SndT.then {x : Expr} {f : Nv → Rs R} {α : Type} {g : R → Nv → Rs α} {g' : Bool → Nv → Rs α} {post : α → Nv → Hp → Hp → Prop} {Q : Bool → Hp → Prop} (h : SndT C W x f) (st : StR C.K M H σ nv) (hd : DoneX C W M H σ nv ((f nv).bind g) post)
    (hg : ∀ r nv, g r nv = match r with | .val (.bl b) => g' b nv | _ => .stuck)
    (k : ∀ b nv1 M1 H1, StR C.K M1 H1 σ nv1 → Step M H (Own σ nv) M1 H1 (Own σ nv1) → DoneX C W M1 H1 σ nv1 (g' b nv1) post → Q b H1) : tT C W x σ H Q := by
  refine h M H σ nv Q st ?_
  unfold tst
  cases e : f nv with
  | ok r nv1 =>
    rw [e] at hd
    simp only [Rs.bind] at hd ⊢
    rw [hg] at hd
    split at hd
    · rename_i b
      intro M' H' s st'
      exact k b nv1 M' H' st' s (DoneX.later hd s)
    · exact hd.elim
  | exc c as nv1 => rw [e] at hd; exact hd
  | stuck => rw [e] at hd; exact hd.elim
theorem SndT.thenE {x : Expr} {f : Nv → Rs R} {g : R → Nv → Rs R} {g' : Bool → Nv → Rs R} {Q' : VK} {Q : Bool → Hp → Prop} (h : SndT C W x f) (st : StR C.K M H σ nv) (hd : DoneE C W M H σ nv ((f nv).bind g) Q')
    (hg : ∀ r nv, g r nv = match r with | .val (.bl b) => g' b nv | _ => .stuck)
    (k : ∀ b nv1 M1 H1, StR C.K M1 H1 σ nv1 → Step M H (Own σ nv) M1 H1 (Own σ nv1) → DoneE C W M1 H1 σ nv1 (g' b nv1) Q' → Q b H1) : tT C W x σ H Q := by
  refine h M H σ nv Q st ?_
  unfold tst
  cases e : f nv with
  | ok r nv1 =>
    rw [e] at hd
    simp only [Rs.bind] at hd ⊢
    rw [hg] at hd
    split at hd
    · rename_i b
      intro M' H' s st'
      exact k b nv1 M' H' st' s (DoneE.later hd s)
    · exact hd.elim
  | exc c as nv1 => rw [e] at hd; exact hd
  | stuck => rw [e] at hd; exact hd.elim
end
end G
namespace G
open PySem PySem.Spec PyProof.Rows L2
variable [Tb]
section
variable {C : Cfg} {W : WX} {M H M1 H1 : Hp} {σ : L2.St} {nv nv1 : Nv} {Φ : Fn} {shs : Nat → Nat → Shape}
structure tW (C : Cfg) (W : WX) (x : Expr)  (σ : L2.St) (H : Hp) (Q : Bool → Hp → Prop) : Prop where
  un : ∀ X, AtE C W X → ∀ whole pins s, Inv X pins σ H s → wpAny (model X.prog X.w) X.A (isTrue x X.env whole) (TP X pins σ Q) X.xe s
theorem PWo {X : Cx} (h : AtE C W X) (x : Expr) : PW X x (tW C W x) := ⟨fun wh pins s σ H Q I t => t.un X h wh pins s I⟩
theorem tW.by {x : Expr} {t : TT} {σ : L2.St} {H : Hp} {Q : Bool → Hp → Prop} (pe : ∀ X, AtE C W X → PW X x t) (h : t σ H Q) : tW C W x σ H Q := ⟨fun X hX wh pins s I => (pe X hX).run wh pins s σ H Q I h⟩
def SndW (C : Cfg) (W : WX) (x : Expr) (f : Nv → Rs R) : Prop := ∀ M H σ nv (Q : Bool → Hp → Prop), StR C.K M H σ nv → DoneX C W M H σ nv (tst f nv) (fun b nv' M' H' => Q b H') → tW C W x σ H Q
theorem SndW.t {x : Expr} {f : Nv → Rs R} (h : SndW C W x f) : SndT C W x f := fun M H σ nv Q st hd => tT.by (fun X hX => (PWo hX x).pt) (h M H σ nv Q st hd)
theorem tst_and {a b : E} (nv : Nv) : tst (evE Φ shs (.and_ a b)) nv = (evE Φ shs a nv).bind fun r nv1 => match r with | .val (.bl k) => (if k = true then tst (evE Φ shs b) nv1 else .ok false nv1) | _ => .stuck := by
  unfold tst
  rw [evE]
  cases evE Φ shs a nv with
  | ok r nv1 =>
    cases r with
    | val d =>
      cases d with
      | bl k => cases k <;> rfl
      | _ => rfl
    | own ds => rfl
  | exc c as nv1 => rfl
  | stuck => rfl
theorem tst_or {a b : E} (nv : Nv) : tst (evE Φ shs (.or_ a b)) nv = (evE Φ shs a nv).bind fun r nv1 => match r with | .val (.bl k) => (if k = true then .ok true nv1 else tst (evE Φ shs b) nv1) | _ => .stuck := by
  unfold tst
  rw [evE]
  cases evE Φ shs a nv with
  | ok r nv1 =>
    cases r with
    | val d =>
      cases d with
      | bl k => cases k <;> rfl
      | _ => rfl
    | own ds => rfl
  | exc c as nv1 => rfl
  | stuck => rfl
theorem tst_not {a : E} (nv : Nv) : tst (evE Φ shs (.not_ a)) nv = (evE Φ shs a nv).bind fun r nv1 => match r with | .val (.bl k) => .ok (!k) nv1 | _ => .stuck := by
  unfold tst
  rw [evE]
  cases evE Φ shs a nv with
  | ok r nv1 =>
    cases r with
    | val d =>
      cases d with
      | bl k => cases k <;> rfl
      | _ => rfl
    | own ds => rfl
  | exc c as nv1 => rfl
  | stuck => rfl
theorem sndW_and {x y : Expr} {xs : List Expr} {a b : E} {pos : Pos} (ha : SndT C W x (evE Φ shs a)) (hb : (xs = [] ∧ SndT C W y (evE Φ shs b)) ∨ SndW C W (.BoolOp .And (y :: xs) pos) (evE Φ shs b)) :
    SndW C W (.BoolOp .And (x :: y :: xs) pos) (evE Φ shs (.and_ a b)) := by
  have key : ∀ {tb : TT}, (∀ X, AtE C W X → PW X (.BoolOp .And (y :: xs) pos) tb) → (∀ M H σ nv (Q : Bool → Hp → Prop), StR C.K M H σ nv → DoneX C W M H σ nv (tst (evE Φ shs b) nv) (fun b nv' M' H' => Q b H') → tb σ H Q) → SndW C W (.BoolOp .And (x :: y :: xs) pos) (evE Φ shs (.and_ a b)) := by
    intro tb pe hb M H σ nv Q st hd
    refine tW.by (fun X hX => pw_and (PTo hX x) (pe X hX)) ?_
    rw [tst_and] at hd
    refine SndT.then (g' := fun k nv1 => if k = true then tst (evE Φ shs b) nv1 else .ok false nv1) ha st hd (fun r nv => rfl) fun k nv1 M1 H1 st1 s1 hd1 => ?_
    cases k with
    | true => rw [if_pos rfl] at hd1 ⊢; exact hb M1 H1 σ nv1 Q st1 hd1
    | false => rw [if_neg (by decide)] at hd1 ⊢; exact hd1 M1 H1 (Step.refl _ _ _) st1
  rcases hb with ⟨rfl, hb⟩ | hb
  · exact key (fun X hX => pw_and1 (PTo hX y)) hb
  · exact key (fun X hX => PWo hX _) hb
theorem sndW_or {x y : Expr} {xs : List Expr} {a b : E} {pos : Pos} (ha : SndT C W x (evE Φ shs a)) (hb : (xs = [] ∧ SndT C W y (evE Φ shs b)) ∨ SndW C W (.BoolOp .Or (y :: xs) pos) (evE Φ shs b)) :
    SndW C W (.BoolOp .Or (x :: y :: xs) pos) (evE Φ shs (.or_ a b)) := by
  have key : ∀ {tb : TT}, (∀ X, AtE C W X → PW X (.BoolOp .Or (y :: xs) pos) tb) → (∀ M H σ nv (Q : Bool → Hp → Prop), StR C.K M H σ nv → DoneX C W M H σ nv (tst (evE Φ shs b) nv) (fun b nv' M' H' => Q b H') → tb σ H Q) → SndW C W (.BoolOp .Or (x :: y :: xs) pos) (evE Φ shs (.or_ a b)) := by
    intro tb pe hb M H σ nv Q st hd
    refine tW.by (fun X hX => pw_or (PTo hX x) (pe X hX)) ?_
    rw [tst_or] at hd
    refine SndT.then (g' := fun k nv1 => if k = true then .ok true nv1 else tst (evE Φ shs b) nv1) ha st hd (fun r nv => rfl) fun k nv1 M1 H1 st1 s1 hd1 => ?_
    cases k with
    | true => rw [if_pos rfl] at hd1 ⊢; exact hd1 M1 H1 (Step.refl _ _ _) st1
    | false => rw [if_neg (by decide)] at hd1 ⊢; exact hb M1 H1 σ nv1 Q st1 hd1
  rcases hb with ⟨rfl, hb⟩ | hb
  · exact key (fun X hX => pw_or1 (PTo hX y)) hb
  · exact key (fun X hX => PWo hX _) hb
theorem sndT_not {x : Expr} {a : E} {pos : Pos} (ha : SndT C W x (evE Φ shs a)) : SndT C W (.UnaryOp .Not x pos) (evE Φ shs (.not_ a)) := by
  intro M H σ nv Q st hd
  refine tT.by (fun X hX => pt_not (PTo hX x)) ?_
  rw [tst_not] at hd
  refine SndT.then (g' := fun k nv1 => .ok (!k) nv1) ha st hd (fun r nv => rfl) fun k nv1 M1 H1 st1 s1 hd1 => hd1 M1 H1 (Step.refl _ _ _) st1
/-- a value that is True or False, as a test -/
def plainT : Expr → Bool
  | .UnaryOp .Not _ _ => false
  | .BoolOp _ _ _ => false
  | .IfExp _ _ _ _ => false
  | .Compare _ _ _ _ => false
  | _ => true
theorem isTrue_of {x : Expr} (h : plainT x = true) (env : PySem.Env) (whole : Sem Value) : isTrue x env whole = (do let v ← whole; standAt x.pos; holding [v] (truthy v)) := by
  cases x with
  | UnaryOp op y pos => cases op <;> first | rfl | (cases h)
  | BoolOp => cases h
  | IfExp => cases h
  | Compare => cases h
  | _ => rfl
/-- a comparison as a test, by its value's rule -/
theorem sndT_cmp {x y whole : Expr} {a b : E} {p : P2} {r : V → V → Hp → VK → Prop} (ho : SndO C W x (fun nv => opd a nv (evE Φ shs a nv))) (ho2 : SndO C W y (fun nv => opd b nv (evE Φ shs b nv)))
    (pe : ∀ X, AtE C W X → PT X whole (fun σ H Q => tE C W x σ H fun v H1 => tE C W y σ H1 fun u H2 => r v u H2 fun z H3 => ∃ k, z = .bl k ∧ Q k H3)) (ok : Ok2 C.K r (p2 p)) : SndT C W whole (evE Φ shs (.op2 p a b)) := by
  intro M H σ nv Q st hd
  refine tT.by pe ?_
  have hd0 : DoneE C W M H σ nv (evE Φ shs (.op2 p a b) nv) (fun z H3 => ∃ k, z = .bl k ∧ Q k H3) := by
    unfold tst at hd
    cases e : evE Φ shs (.op2 p a b) nv with
    | ok r nv1 =>
      rw [e] at hd
      intro v M' H' s st' rr
      simp only [Rs.bind] at hd
      split at hd
      · rename_i k
        simp only [RR, Rep] at rr
        exact ⟨k, rr, hd M' H' (s.less fun a h => .inl h) st'⟩
      · exact hd.elim
    | exc c as nv1 => rw [e] at hd; exact hd
    | stuck => rw [e] at hd; exact hd
  rw [evE] at hd0
  refine SndO.then ho st hd0 fun o nv1 v M1 H1 e1 st1 ov s1 hd1 => ?_
  refine SndO.then ho2 st1 hd1 fun o2 nv2 u M2 H2 e2 st2 ou s2 hd2 => ?_
  have ov2 := OpdR.mono s2.mm ov
  cases l : look nv2 o with
  | none => rw [l] at hd2; exact hd2.elim
  | some d =>
    cases l2 : look nv2 o2 with
    | none => rw [l, l2] at hd2; exact hd2.elim
    | some e =>
      rw [l, l2] at hd2
      have hd3 : DoneE C W M2 H2 σ nv2 (Rs.of (p2 p d e) nv2) _ := hd2
      cases q : p2 p d e with
      | none => rw [q] at hd3; exact hd3.elim
      | some res =>
        rw [q] at hd3
        exact ok M2 H2 d e v u res _ st2.ext (look_ok st2 ov2 l) (look_ok st2 ou l2) q fun v' M' H' p' h' => prim_done hd3 st2 p' h'
/-- one operand, as a test -/
theorem sndT_op1 {x whole : Expr} {a : E} {p : P1} {r : V → Hp → VK → Prop} (ho : SndO C W x (fun nv => opd a nv (evE Φ shs a nv)))
    (pe : ∀ X, AtE C W X → PT X whole (fun σ H Q => tE C W x σ H fun v H1 => r v H1 fun z H3 => ∃ k, z = .bl k ∧ Q k H3)) (ok : Ok1 C.K r (p1 p)) : SndT C W whole (evE Φ shs (.op1 p a)) := by
  intro M H σ nv Q st hd
  refine tT.by pe ?_
  have hd0 : DoneE C W M H σ nv (evE Φ shs (.op1 p a) nv) (fun z H3 => ∃ k, z = .bl k ∧ Q k H3) := by
    unfold tst at hd
    cases e : evE Φ shs (.op1 p a) nv with
    | ok r nv1 =>
      rw [e] at hd
      intro v M' H' s st' rr
      simp only [Rs.bind] at hd
      split at hd
      · rename_i k
        simp only [RR, Rep] at rr
        exact ⟨k, rr, hd M' H' (s.less fun a h => .inl h) st'⟩
      · exact hd.elim
    | exc c as nv1 => rw [e] at hd; exact hd
    | stuck => rw [e] at hd; exact hd
  rw [evE] at hd0
  refine SndO.then ho st hd0 fun o nv1 v M1 H1 e1 st1 ov s1 hd1 => ?_
  cases l : look nv1 o with
  | none => rw [l] at hd1; exact hd1.elim
  | some d =>
    rw [l] at hd1
    have hd2 : DoneE C W M1 H1 σ nv1 (Rs.of (p1 p d) nv1) _ := hd1
    cases q : p1 p d with
    | none => rw [q] at hd2; exact hd2.elim
    | some res =>
      rw [q] at hd2
      exact ok M1 H1 d v res _ st1.ext (look_ok st1 ov l) q fun v' M' H' p' h' => prim_done hd2 st1 p' h'
/-- the truth of a value, as a test -/
theorem sndT_truth {x : Expr} {a : E} (hp : plainT x = true) (ho : SndO C W x (fun nv => opd a nv (evE Φ shs a nv))) : SndT C W x (evE Φ shs (.op1 .truth a)) := by
  refine sndT_op1 (r := fun v H Q => ∃ k, TruV C.K v H k ∧ Q (.bl k) H) ho (fun X hX => ?_) ok_truth
  refine ⟨fun pins s σ H Q I h => ?_⟩
  refine (pt_truth (PEo hX x) (isTrue_of hp _)).run pins s σ H Q I ?_
  have h' : tE C W x σ H fun v H1 => ∃ k, TruV C.K v H1 k ∧ ∃ k', V.bl k = .bl k' ∧ Q k' H1 := h
  refine ⟨fun X' hX' pins' s' I' => ?_⟩
  refine thn (h'.un X' hX' pins' s' I') fun u s2 ⟨v, H2, I2, r2, k, t, k', e, q⟩ => ⟨v, H2, I2, r2, k, ?_, ?_⟩
  · rw [hX.K]; exact t
  · cases e; exact q
end
end G
namespace G
open PySem PySem.Spec PyProof.Rows L2
variable [Tb]
section
variable {C : Cfg} {W : WX} {M H M1 H1 : Hp} {σ : L2.St} {nv nv1 : Nv} {Φ : Fn} {shs : Nat → Nat → Shape}
/-! ### targets -/
structure tG (C : Cfg) (W : WX) (tg : Expr)  (v : V) (σ : L2.St) (H : Hp) (Q : L2.St → Hp → Prop) : Prop where
  un : ∀ X, AtE C W X → ∀ pins s u, Inv X pins σ H s → RelV v u → wpAny (model X.prog X.w) X.A (assign tg X.env u) (fun _ s' => ∃ σ' H', Inv X pins σ' H' s' ∧ Q σ' H') X.xe s
theorem PGo {X : Cx} (h : AtE C W X) (x : Expr) : PG X x (tG C W x) := ⟨fun pins s σ H v u Q I r t => t.un X h pins s u I r⟩
theorem tG.by {x : Expr} {t : TG} {v : V} {σ : L2.St} {H : Hp} {Q : L2.St → Hp → Prop} (pe : ∀ X, AtE C W X → PG X x t) (h : t v σ H Q) : tG C W x v σ H Q := ⟨fun X hX pins s u I r => (pe X hX).run pins s σ H v u Q I r h⟩
/-- the slots that a target stores to -/
def T.slots : T → List Nat
  | .nm i => [i]
  | .two a b => a.slots ++ b.slots
  | .three a b c => a.slots ++ b.slots ++ c.slots
  | .nms is => is
def chkNs (N : List Str) (st : Str → Bool) : List Nat → List Expr → Bool
  | [], [] => true
  | i :: is, .Name x _ :: xs => decide (N[i]? = some x) && st x && chkNs N st is xs
  | _, _ => false
def chkT1 (N : List Str) (st : Str → Bool) : T → Expr → Bool
  | .nm i, .Name x _ => decide (N[i]? = some x) && st x
  | .two a b, .Tuple [x, y] _ _ => chkT1 N st a x && chkT1 N st b y && noStars [x, y]
  | .three a b c, .Tuple [x, y, z] _ _ => chkT1 N st a x && chkT1 N st b y && chkT1 N st c z && noStars [x, y, z]
  | .nms is, .Tuple xs _ _ => chkNs N st is xs
  | _, _ => false
theorem pg_nm {i : Nat} {x : Str} {pos : Pos} (h : C.N[i]? = some x) (hs : C.st x = true) (X : Cx) (hX : AtE C W X) : PG X (.Name x pos) (gName i) := by
  obtain ⟨h1, h2⟩ := hX.fn x hs
  exact pg_name hX.nd (by rw [hX.N]; exact h) h1 h2
theorem asg_cons {x : Expr} (h : noStar x = true) (xs : List Expr) (env : PySem.Env) : (assignEach (x :: xs) env) = (false, assign x env) :: assignEach xs env := by
  cases x <;> first | rfl | (cases h)
theorem asg_find : ∀ {xs : List Expr} {env : PySem.Env}, noStars xs = true → (assignEach xs env).findIdx? (·.1) = none
  | [], _, _ => rfl
  | x :: xs, env, h => by
    obtain ⟨h1, h2⟩ := noStars_cons h
    rw [asg_cons h1, List.findIdx?_cons]
    simp [asg_find h2]
theorem asg_len : ∀ {xs : List Expr} {env : PySem.Env}, noStars xs = true → (assignEach xs env).length = xs.length
  | [], _, _ => rfl
  | x :: xs, env, h => by
    obtain ⟨h1, h2⟩ := noStars_cons h
    rw [asg_cons h1, List.length_cons, asg_len h2, List.length_cons]
/-- a store of data to a slot that holds no borrowed list -/
theorem StR.putD (st : StR C.K M H σ nv) {i : Nat} {d : D} {v : V} {u : Unit} {nv' : Nv} (e : stSlot i (.val d) nv = .ok u nv') (r : Rep C.K M d v) :
    StR C.K M H (σ.set i (some v)) nv' ∧ (∀ a, Own (σ.set i (some v)) nv' a → Own σ nv a) ∧ nv' = nv.set i (some (.val d)) := by
  have e' : nv' = nv.set i (some (.val d)) := by
    unfold stSlot at e
    split at e
    · cases e
    · cases e; rfl
    · cases e
  subst e'
  have k : ∀ (j : Nat) (f : Kd) (ds : List D), (nv.set i (some (.val d)))[j]? = some (some (.lv f ds)) → nv[j]? = some (some (.lv f ds)) ∧ i ≠ j := fun j f ds h => by
    by_cases e : i = j
    · subst e
      rw [List.getElem?_set] at h
      split at h
      · split at h <;> cases h
      · contradiction
    · rw [List.getElem?_set_ne e] at h
      exact ⟨h, e⟩
  refine ⟨⟨st.ext, by simp [st.len], fun j t h => ?_, fun j l g g' xs ys w h1 h2 h3 h4 => ?_, st.tb⟩, fun a h => ?_, rfl⟩
  · by_cases e : i = j
    · subst e
      rw [List.getElem?_set] at h
      split at h
      · split at h
        · cases h
          rename_i h1
          refine ⟨v, ?_, r⟩
          rw [List.getElem?_set_self (by rw [← st.len]; exact h1)]
        · cases h
      · contradiction
    · rw [List.getElem?_set_ne e] at h ⊢
      exact st.get j t h
  · obtain ⟨h1, e1⟩ := k _ _ _ h1
    obtain ⟨h2, e2⟩ := k _ _ _ h2
    rw [List.getElem?_set_ne e1] at h3
    rw [List.getElem?_set_ne e2] at h4
    exact st.apart j l g g' xs ys w h1 h2 h3 h4
  · rcases h with ⟨j, f, ds, h1, h2⟩ | h
    case inr => exact .inr h
    obtain ⟨h1, e1⟩ := k _ _ _ h1
    rw [List.getElem?_set_ne e1] at h2
    exact .inl ⟨j, f, ds, h1, h2⟩
theorem pg_two {x y : Expr} {kk : Nat} {pos : Pos} (c3 : noStars [x, y] = true) (X : Cx) (hX : AtE C W X) : PG X (.Tuple [x, y] kk pos) (gTup C.K 2 (gCons (tG C W x) (gCons (tG C W y) gNil))) := by
  obtain ⟨n1, n2⟩ := noStars_cons c3
  obtain ⟨n2, n3⟩ := noStars_cons n2
  rw [← hX.K]
  exact pg_tup (n := 2) hX.calm (pgs_cons (PGo hX x) (pgs_cons (PGo hX y) pgs_nil (by rw [asg_cons n2]; rfl)) (by rw [asg_cons n1]; rfl)) (asg_len c3) (asg_find c3)
theorem pg_three {x y z : Expr} {kk : Nat} {pos : Pos} (c3 : noStars [x, y, z] = true) (X : Cx) (hX : AtE C W X) : PG X (.Tuple [x, y, z] kk pos) (gTup C.K 3 (gCons (tG C W x) (gCons (tG C W y) (gCons (tG C W z) gNil)))) := by
  obtain ⟨n1, n2⟩ := noStars_cons c3
  obtain ⟨n2, n3⟩ := noStars_cons n2
  obtain ⟨n3, n4⟩ := noStars_cons n3
  rw [← hX.K]
  exact pg_tup (n := 3) hX.calm (pgs_cons (PGo hX x) (pgs_cons (PGo hX y) (pgs_cons (PGo hX z) pgs_nil (by rw [asg_cons n3]; rfl)) (by rw [asg_cons n2]; rfl)) (by rw [asg_cons n1]; rfl)) (asg_len c3) (asg_find c3)
theorem chkNs_stars {N : List Str} {st : Str → Bool} : ∀ {is : List Nat} {xs : List Expr}, chkNs N st is xs = true → noStars xs = true ∧ xs.length = is.length
  | [], [], _ => ⟨rfl, rfl⟩
  | i :: is, x :: xs, h => by
    cases x <;> simp only [chkNs] at h <;> try (cases h; done)
    rw [Bool.and_eq_true] at h
    obtain ⟨h1, h2⟩ := chkNs_stars h.2
    exact ⟨by simp [noStars] at h1 ⊢; exact ⟨rfl, h1⟩, by simp [h2]⟩
  | [], x :: xs, h => by simp [chkNs] at h
  | i :: is, [], h => by simp [chkNs] at h
def gNs : List Nat → TGs
  | [] => gNil
  | i :: is => gCons (gName i) (gNs is)
theorem pgs_nms : ∀ {is : List Nat} {xs : List Expr}, chkNs C.N C.st is xs = true → ∀ X, AtE C W X → PGs X xs (gNs is)
  | [], [], _, X, hX => pgs_nil
  | i :: is, x :: xs, h, X, hX => by
    have hs := chkNs_stars h
    cases x <;> simp only [chkNs] at h <;> try (cases h; done)
    rw [Bool.and_eq_true, Bool.and_eq_true, decide_eq_true_eq] at h
    exact pgs_cons (pg_nm h.1.1 h.1.2 X hX) (pgs_nms h.2 X hX) (by rw [asg_cons (by rfl)]; rfl)
  | [], x :: xs, h, X, hX => by simp [chkNs] at h
  | i :: is, [], h, X, hX => by simp [chkNs] at h
theorem pg_nms {is : List Nat} {xs : List Expr} {kk : Nat} {pos : Pos} (h : chkNs C.N C.st is xs = true) (X : Cx) (hX : AtE C W X) : PG X (.Tuple xs kk pos) (gTup C.K is.length (gNs is)) := by
  obtain ⟨h1, h2⟩ := chkNs_stars h
  rw [← hX.K]
  exact pg_tup (n := is.length) hX.calm (pgs_nms h X hX) (by rw [asg_len h1, h2]) (asg_find h1)
theorem sndNs : ∀ {is : List Nat} {ds : List D} {vs : List V} {M H : Hp} {σ : L2.St} {nv nv' : Nv} {u : Unit} {Q : L2.St → Hp → Prop}, StR C.K M H σ nv → Reps C.K M ds vs → asgNs is ds nv = .ok u nv' →
    (∀ σ', StR C.K M H σ' nv' → (∀ a, Own σ' nv' a → Own σ nv a) → (∀ j, j ∉ is → σ'[j]? = σ[j]? ∧ nv'[j]? = nv[j]?) → Q σ' H) → gNs is vs σ H Q ∧ is.length = vs.length
  | [], [], _, M, H, σ, nv, nv', u, Q, st, r, e, k => by
    simp only [Reps] at r
    subst r
    cases e
    exact ⟨⟨rfl, k σ st (fun _ h => h) fun _ _ => ⟨rfl, rfl⟩⟩, rfl⟩
  | i :: is, d :: ds, vs, M, H, σ, nv, nv', u, Q, st, r, e, k => by
    simp only [Reps] at r
    obtain ⟨v, vs', rfl, r1, r2⟩ := r
    simp only [asgNs] at e
    cases e1 : stSlot i (.val d) nv with
    | ok u1 nv1 =>
      rw [e1] at e
      obtain ⟨h1, h2, h3⟩ := st.putD e1 r1
      obtain ⟨g1, g2⟩ := sndNs (is := is) (ds := ds) (Q := Q) h1 r2 e fun σ' st' o' q' => k σ' st' (fun a h => h2 a (o' a h)) fun j hj => by
        rw [List.mem_cons, not_or] at hj
        have hij : i ≠ j := fun z => hj.1 z.symm
        subst h3
        exact ⟨(q' j hj.2).1.trans (List.getElem?_set_ne hij), (q' j hj.2).2.trans (List.getElem?_set_ne hij)⟩
      exact ⟨⟨v, vs', rfl, g1⟩, by simp [g2]⟩
    | exc c as nv1 => rw [e1] at e; cases e
    | stuck => rw [e1] at e; cases e
  | [], d :: ds, _, M, H, σ, nv, nv', u, Q, st, r, e, k => by cases e
  | i :: is, [], _, M, H, σ, nv, nv', u, Q, st, r, e, k => by cases e
theorem asgD_two {a b : T} {d : D} {nv nv' : Nv} {u : Unit} (h : asgD (.two a b) d nv = .ok u nv') : ∃ x y, d = .tup [x, y] ∧ ((asgD a x nv).bind fun _ nv1 => asgD b y nv1) = .ok u nv' := by
  cases d with
  | tup ds => rcases ds with _ | ⟨x, _ | ⟨y, _ | ⟨z, r⟩⟩⟩ <;> first | exact ⟨_, _, rfl, h⟩ | cases h
  | _ => cases h
theorem asgD_three {a b c : T} {d : D} {nv nv' : Nv} {u : Unit} (h : asgD (.three a b c) d nv = .ok u nv') : ∃ x y z, d = .tup [x, y, z] ∧ ((asgD a x nv).bind fun _ nv1 => (asgD b y nv1).bind fun _ nv2 => asgD c z nv2) = .ok u nv' := by
  cases d with
  | tup ds => rcases ds with _ | ⟨x, _ | ⟨y, _ | ⟨z, _ | ⟨w, r⟩⟩⟩⟩ <;> first | exact ⟨_, _, _, rfl, h⟩ | cases h
  | _ => cases h
theorem sndG (t : T) : ∀ {x : Expr} {d : D} {v : V} {M H : Hp} {σ : L2.St} {nv nv' : Nv} {u : Unit} {Q : L2.St → Hp → Prop}, chkT1 C.N C.st t x = true → StR C.K M H σ nv → Rep C.K M d v → asgD t d nv = .ok u nv' →
    (∀ σ', StR C.K M H σ' nv' → (∀ a, Own σ' nv' a → Own σ nv a) → (∀ j, j ∉ t.slots → σ'[j]? = σ[j]? ∧ nv'[j]? = nv[j]?) → Q σ' H) → tG C W x v σ H Q := by
  induction t with
  | nm i =>
    intro x d v M H σ nv nv' u Q hc st r e k
    cases x <;> simp only [chkT1] at hc <;> try (cases hc)
    simp only [Bool.and_eq_true, decide_eq_true_eq] at hc
    obtain ⟨h1, h2, h3⟩ := st.putD e r
    refine tG.by (pg_nm hc.1 hc.2) ?_
    refine k _ h1 h2 fun j hj => ?_
    have : i ≠ j := fun z => hj (by simp [T.slots, z])
    subst h3
    exact ⟨List.getElem?_set_ne this, List.getElem?_set_ne this⟩
  | two a b iha ihb =>
    intro x d v M H σ nv nv' u Q hc st r e k
    unfold chkT1 at hc
    split at hc
    · rename_i h; cases h
    · rename_i a' b' x y kk pos ht
      cases ht
      simp only [Bool.and_eq_true] at hc
      obtain ⟨⟨c1, c2⟩, c3⟩ := hc
      obtain ⟨d1, d2, rfl, q⟩ := asgD_two e
      clear e
      simp only [Rep] at r
      obtain ⟨p, vs, rfl, hq, hr⟩ := r
      simp only [Reps] at hr
      obtain ⟨v1, vs1, rfl, r1, v2, vs2, rfl, r2, rfl⟩ := hr
      cases e1 : asgD a d1 nv with
      | ok u1 nv1 =>
        rw [e1] at q
        refine tG.by (pg_two c3) ⟨p, _, rfl, SqT.up st.ext hq, rfl, v1, [v2], rfl, ?_⟩
        refine iha c1 st r1 e1 fun σ1 st1 o1 q1 => ⟨v2, [], rfl, ?_⟩
        refine ihb c2 st1 r2 q fun σ2 st2 o2 q2 => ⟨rfl, ?_⟩
        refine k σ2 st2 (fun a h => o1 a (o2 a h)) fun j hj => ?_
        simp only [T.slots, List.mem_append, not_or] at hj
        exact ⟨(q2 j hj.2).1.trans (q1 j hj.1).1, (q2 j hj.2).2.trans (q1 j hj.1).2⟩
      | exc c as nv1 => rw [e1] at q; cases q
      | stuck => rw [e1] at q; cases q
    · rename_i h; cases h
    · rename_i h; cases h
    · cases hc
  | nms is =>
    intro x d v M H σ nv nv' u Q hc st r e k
    unfold chkT1 at hc
    split at hc
    · rename_i h; cases h
    · rename_i h; cases h
    · rename_i h; cases h
    · rename_i is' xs kk pos ht
      cases ht
      cases d <;> first | (cases e; done) | skip
      rename_i ds
      simp only [Rep] at r
      obtain ⟨p, vs, rfl, hq, hr⟩ := r
      obtain ⟨g1, g2⟩ := sndNs (Q := Q) st hr e k
      exact tG.by (pg_nms hc) ⟨p, vs, rfl, SqT.up st.ext hq, g2.symm, g1⟩
    · cases hc
  | three a b c iha ihb ihc =>
    intro x d v M H σ nv nv' u Q hc st r e k
    unfold chkT1 at hc
    split at hc
    · rename_i h; cases h
    · rename_i h; cases h
    · rename_i a' b' c' x y z kk pos ht
      cases ht
      simp only [Bool.and_eq_true] at hc
      obtain ⟨⟨⟨c1, c2⟩, c2'⟩, c3⟩ := hc
      obtain ⟨d1, d2, d3, rfl, q⟩ := asgD_three e
      clear e
      simp only [Rep] at r
      obtain ⟨p, vs, rfl, hq, hr⟩ := r
      simp only [Reps] at hr
      obtain ⟨v1, vs1, rfl, r1, v2, vs2, rfl, r2, v3, vs3, rfl, r3, rfl⟩ := hr
      cases e1 : asgD a d1 nv with
      | ok u1 nv1 =>
        rw [e1] at q
        simp only [Rs.bind] at q
        cases e2 : asgD b d2 nv1 with
        | ok u2 nv2 =>
          rw [e2] at q
          refine tG.by (pg_three c3) ⟨p, _, rfl, SqT.up st.ext hq, rfl, v1, [v2, v3], rfl, ?_⟩
          refine iha c1 st r1 e1 fun σ1 st1 o1 q1 => ⟨v2, [v3], rfl, ?_⟩
          refine ihb c2 st1 r2 e2 fun σ2 st2 o2 q2 => ⟨v3, [], rfl, ?_⟩
          refine ihc c2' st2 r3 q fun σ3 st3 o3 q3 => ⟨rfl, ?_⟩
          refine k σ3 st3 (fun a h => o1 a (o2 a (o3 a h))) fun j hj => ?_
          simp only [T.slots, List.mem_append, not_or] at hj
          exact ⟨(q3 j hj.2).1.trans ((q2 j hj.1.2).1.trans (q1 j hj.1.1).1), (q3 j hj.2).2.trans ((q2 j hj.1.2).2.trans (q1 j hj.1.1).2)⟩
        | exc c as nv1 => rw [e2] at q; cases q
        | stuck => rw [e2] at q; cases q
      | exc c as nv1 => rw [e1] at q; cases q
      | stuck => rw [e1] at q; cases q
    · rename_i h; cases h
    · cases hc
/-! ### what is walked -/
structure tI (C : Cfg) (W : WX) (tg iter : Expr)  (σ : L2.St) (H : Hp) (R : It → Hp → Prop) : Prop where
  un : ∀ X, AtE C W X → ∀ pins s, Inv X pins σ H s →
  wpAny (model X.prog X.w) X.A (eval iter X.env) (fun v s1 => wpAny (model X.prog X.w) X.A (pyIter v) (PIE X pins σ tg R) X.xe s1) X.xe s
theorem PIo {X : Cx} (h : AtE C W X) (tg it : Expr) : PI X tg it (tI C W tg it) := ⟨fun pins s σ H R I t => t.un X h pins s I⟩
theorem tI.by {tg it : Expr} {t : TI} {σ : L2.St} {H : Hp} {R : It → Hp → Prop} (pe : ∀ X, AtE C W X → PI X tg it t) (h : t σ H R) : tI C W tg it σ H R := ⟨fun X hX pins s I => (pe X hX).run pins s σ H R I h⟩
/-- J yields the data xs, wherever what is known still is -/
structure JOk (K : PySem.W.Frag) (M : Hp) (J : It) (xs : List D) : Prop where
  stop : ∀ M' H, Same M M' → Same M' H → J.stop xs.length H
  go : ∀ M' H i d, Same M M' → Same M' H → xs[i]? = some d → J.go i H ∧ ∀ x H', J.yld i H x H' → ∃ M'', Prim M' H M'' H' ∧ Rep K M'' d x
def SndI (C : Cfg) (W : WX) (tg iter : Expr) (f : Nv → Rs (List D)) : Prop := ∀ M H σ nv R, StR C.K M H σ nv → DoneX C W M H σ nv (f nv) (fun xs nv' M' H' => ∀ J, JOk C.K M' J xs → R J H') → tI C W tg iter σ H R
noncomputable def itf (Φ : Fn) (shs : Nat → Nat → Shape) (k : Ik) (es : List E) (nv : Nv) : Rs (List D) := (evOs Φ shs es nv).bind fun os nv1 => match items k os with
  | none => .stuck
  | some xs => .ok xs nv1
theorem jok_tup' {K : PySem.W.Frag} {M : Hp} {a : Addr} {vs : List V} {ds : List D} (h : GT.SqN K M a vs) (r : Reps K M ds vs) : JOk K M (Itt K a) ds := by
  refine ⟨fun M' H s1 s2 => ⟨vs, SqT.up (s1.trans s2) h, by rw [r.length]; exact Nat.le_refl _⟩, fun M' H i d s1 s2 hd => ?_⟩
  obtain ⟨v, h1, h2⟩ := r.get hd
  refine ⟨⟨vs, v, SqT.up (s1.trans s2) h, h1⟩, fun x H' y => ?_⟩
  obtain ⟨rfl, y⟩ := y
  have := y vs (SqT.up (s1.trans s2) h)
  rw [h1] at this
  cases this
  exact ⟨M', Prim.refl s2, Rep.mono s1 h2⟩
theorem jok_lst {K : PySem.W.Frag} {M : Hp} {a : Addr} {vs : List V} {ds : List D} (h : SqL K M a vs) (r : Reps K M ds vs) : JOk K M (Itl K a) ds := by
  refine ⟨fun M' H s1 s2 => ⟨vs, (s1.trans s2).seq h, by rw [r.length]; exact Nat.le_refl _⟩, fun M' H i d s1 s2 hd => ?_⟩
  obtain ⟨v, h1, h2⟩ := r.get hd
  refine ⟨⟨vs, v, (s1.trans s2).seq h, h1⟩, fun x H' y => ?_⟩
  obtain ⟨rfl, y⟩ := y
  have := y vs ((s1.trans s2).seq h)
  rw [h1] at this
  cases this
  exact ⟨M', Prim.refl s2, Rep.mono s1 h2⟩
theorem jok_rng {K : PySem.W.Frag} {M : Hp} (lo : Int) (n : Nat) : JOk K M (Itr lo n) ((List.range n).map fun (k : Nat) => D.int (lo + k)) := by
  refine ⟨fun M' H s1 s2 => ?_, fun M' H i d s1 s2 hd => ?_⟩
  · rw [List.length_map, List.length_range]; exact Nat.le_refl _
  · rw [List.getElem?_map] at hd
    by_cases hi : i < n
    · rw [List.getElem?_range hi] at hd
      cases hd
      refine ⟨hi, fun x H' y => ?_⟩
      obtain ⟨rfl, rfl⟩ := y
      exact ⟨M', Prim.refl s2, by simp [Rep]⟩
    · rw [List.getElem?_eq_none (by simpa using hi)] at hd
      cases hd
/-- a tuple or a list, by its value -/
inductive Sq2 where
  | t | l
end
end G
namespace G
open PySem PySem.Spec PyProof.Rows L2
variable [Tb]
section
variable {C : Cfg} {W : WX} {M H M1 H1 : Hp} {σ : L2.St} {nv nv1 : Nv} {Φ : Fn} {shs : Nat → Nat → Shape}
/-! ### walks -/
def isGl (sc : Scope) (x : Str) : Bool := decide (sc.names.lookup x = some .globalImplicit)
theorem gl_of {X : Cx} {x : Str} (hX : AtE C W X) (h : isGl C.sc x = true) : Gl X x := by
  unfold isGl at h
  show X.env.kindOf x = _
  unfold PySem.Env.kindOf
  rw [hX.sc]
  exact of_decide_eq_true h
def isBrw : E → Bool
  | .brw _ => true
  | _ => false
theorem evOs_one {e : E} (h : isBrw e = false) (nv : Nv) : evOs Φ shs [e] nv = (evE Φ shs e nv).bind fun r nv1 => .ok [.inl r.frz] nv1 := by
  rw [evOs]
  have : argStep e nv (evE Φ shs e nv) (evOs Φ shs []) = (evE Φ shs e nv).bind fun r nv1 => (evOs Φ shs [] nv1).bind fun os nv2 => .ok (.inl r.frz :: os) nv2 := by
    cases e <;> first | rfl | (cases h)
  rw [this]
  congr 1
theorem evOs_len : ∀ {es : List E} {nv nv1 : Nv} {os : List (D ⊕ Nat)}, evOs Φ shs es nv = .ok os nv1 → os.length = es.length
  | [], nv, nv1, os, h => by
    rw [evOs] at h
    cases h
    rfl
  | e :: es, nv, nv1, os, h => by
    rw [evOs] at h
    by_cases hb : isBrw e = true
    · cases e <;> first | (cases hb; done) | skip
      simp only [argStep] at h
      split at h
      · cases q : evOs Φ shs es nv with
        | ok os' nv' =>
          rw [q] at h
          cases h
          simp [evOs_len q]
        | exc c as nv' => rw [q] at h; cases h
        | stuck => rw [q] at h; cases h
      · cases h
    · have hb : isBrw e = false := by simpa using hb
      have : argStep e nv (evE Φ shs e nv) (evOs Φ shs es) = (evE Φ shs e nv).bind fun r nv1 => (evOs Φ shs es nv1).bind fun os nv2 => .ok (.inl r.frz :: os) nv2 := by
        cases e <;> first | rfl | (cases hb)
      rw [this] at h
      cases q0 : evE Φ shs e nv with
      | ok r nv0 =>
        rw [q0] at h
        simp only [Rs.bind] at h
        cases q : evOs Φ shs es nv0 with
        | ok os' nv' =>
          rw [q] at h
          cases h
          simp [evOs_len q]
        | exc c as nv' => rw [q] at h; cases h
        | stuck => rw [q] at h; cases h
      | exc c as nv' => rw [q0] at h; cases h
      | stuck => rw [q0] at h; cases h
def plainSet : Expr → Bool
  | .Set _ _ _ => false
  | _ => true
theorem sndI_seq {tg it : Expr} {e : E} (hb : isBrw e = false) (h : SndE C W it (evE Φ shs e)) : SndI C W tg it (itf Φ shs .seq [e]) := by
  intro M H σ nv R st hd
  unfold itf at hd
  rw [evOs_one hb] at hd
  have body : ∀ {tt : TI} (wi : TI), wi = tt → True := fun _ _ => trivial
  cases ev : evE Φ shs e nv with
  | ok r nv1 =>
    rw [ev] at hd
    simp only [Rs.bind, items] at hd
    have run : ∀ {Q : VK}, (∀ v M1 H1, StR C.K M1 H1 σ nv1 → Rep C.K M1 r.frz v → Step M H (Own σ nv) M1 H1 (Own σ nv1) → Q v H1) → tE C W it σ H Q := fun {Q} k => by
      refine h M H σ nv Q st ?_
      rw [ev]
      intro v M' H' s st' rr
      obtain ⟨M2, st2, rp, s2, _⟩ := freeze st' rr s
      exact k v M2 H' st2 rp s2
    generalize r.frz = d at hd run
    cases d with
    | tup ds =>
      refine tI.by (t := iTup C.K (tE C W it)) (fun X hX => by rw [← hX.K]; exact pi_tup (PEo hX it)) ?_
      refine run fun v M1 H1 st1 rp s1 => ?_
      simp only [Rep] at rp
      obtain ⟨a, vs, rfl, h1, h2⟩ := rp
      exact ⟨a, rfl, ⟨vs, SqT.up st1.ext h1⟩, hd M1 H1 s1 st1 _ (jok_tup' h1 h2)⟩
    | lst ds =>
      refine tI.by (t := iList C.K (tE C W it)) (fun X hX => by rw [← hX.K]; exact pi_list (PEo hX it)) ?_
      refine run fun v M1 H1 st1 rp s1 => ?_
      simp only [Rep] at rp
      obtain ⟨a, vs, rfl, h1, h2⟩ := rp
      exact ⟨a, rfl, ⟨vs, SqL.of (st1.ext _ _ h1)⟩, hd M1 H1 s1 st1 _ (jok_lst (SqL.of h1) h2)⟩
    | scr ns =>
      refine tI.by (t := iList C.K (tE C W it)) (fun X hX => by rw [← hX.K]; exact pi_list (PEo hX it)) ?_
      refine run fun v M1 H1 st1 rp s1 => ?_
      simp only [Rep] at rp
      obtain ⟨a, rfl, h1⟩ := rp
      exact ⟨a, rfl, ⟨_, st1.ext.seq h1⟩, hd M1 H1 s1 st1 _ (jok_lst h1 Reps.of_ints)⟩
    | str z =>
      simp only [lstOf] at hd
      by_cases hz : z.length ≤ SZ
      · rw [if_pos hz] at hd
        refine tI.by (t := iStr (tE C W it)) (fun X hX => pi_str (PEo hX it)) ?_
        refine run fun v M1 H1 st1 rp s1 => ?_
        simp only [Rep] at rp
        subst rp
        refine ⟨z, rfl, hd M1 H1 s1 st1 _ ⟨fun M' H s1 s2 => ?_, fun M' H i d s1 s2 hd => ?_⟩⟩
        · show z.cps.size ≤ _
          simp
        · rw [List.getElem?_map] at hd
          cases q : z.cps.toList[i]? with
          | none => rw [q] at hd; cases hd
          | some c =>
            rw [q] at hd
            cases hd
            have q' : z.cps[i]? = some c := by simpa using q
            refine ⟨?_, fun x H' y => ?_⟩
            · show i < z.cps.size
              exact (Array.getElem?_eq_some_iff.mp q').1
            · obtain ⟨rfl, c', h1, rfl⟩ := y
              rw [q'] at h1
              cases h1
              exact ⟨M', Prim.refl s2, by simp [Rep]⟩
      · rw [if_neg hz] at hd; exact hd.elim
    | _ => exact hd.elim
  | exc c as nv1 =>
    rw [ev] at hd
    refine tI.by (t := iTup C.K (tE C W it)) (fun X hX => by rw [← hX.K]; exact pi_tup (PEo hX it)) ?_
    refine h M H σ nv _ st ?_
    rw [ev]
    exact hd
  | stuck => rw [ev] at hd; exact hd.elim
theorem b62_ok {i : Int} (h : b62 i = true) : -(2 ^ 62) ≤ i ∧ i < 2 ^ 62 := by
  unfold b62 at h
  simp only [Bool.and_eq_true, decide_eq_true_eq] at h
  omega
theorem sndI_rng1 {tg x : Expr} {e : E} {p pos : Pos} (hg : isGl C.sc "range" = true) (hm : C.mg "range" = none) (ns : noStar x = true) (h : SndA C W [x] (evOs Φ shs [e])) (hb : isBrw e = false) :
    SndI C W tg (.Call (.Name "range" p) [x] [] pos) (itf Φ shs .rng [e]) := by
  intro M H σ nv R st hd
  refine tI.by (fun X hX => pi_range1 (gl_of hX hg) (by rw [hX.mg]; exact hm) (PAo hX [x]) (by rw [star_cons ns]; rfl)) ?_
  unfold itf at hd
  refine h M H σ nv _ st ?_
  cases ev : evOs Φ shs [e] nv with
  | ok os nv1 =>
    rw [ev] at hd
    intro M1 H1 s1 st1 vs hv
    have hd := DoneX.later hd s1
    simp only [Rs.bind] at hd
    match os, hd, hv with
    | [.inl (.int n)], hd, hv =>
      simp only [items] at hd
      obtain ⟨v, vs', rfl, h1, h2⟩ := hv
      have h2 : vs' = [] := h2
      subst h2
      have h1 : Rep C.K M1 (.int n) v := h1
      simp only [Rep] at h1
      subst h1
      cases hb62 : b62 n with
      | true =>
        rw [hb62] at hd
        have b := b62_ok hb62
        refine ⟨n, rfl, b.1, b.2, hd M1 H1 (Step.refl _ _ _) st1 _ ?_⟩
        have := jok_rng (K := C.K) (M := M1) 0 n.toNat
        simpa using this
      | false => rw [hb62] at hd; exact hd.elim
    | [], hd, hv => exact hd.elim
    | [.inr _], hd, hv => exact hd.elim
    | [.inl .non], hd, hv => exact hd.elim
    | [.inl (.bl _)], hd, hv => exact hd.elim
    | [.inl (.str _)], hd, hv => exact hd.elim
    | [.inl (.tup _)], hd, hv => exact hd.elim
    | [.inl (.lst _)], hd, hv => exact hd.elim
    | [.inl (.scr _)], hd, hv => exact hd.elim
    | a :: b :: c, hd, hv =>
      have := hv.length
      -- one operand gives one
      rw [evOs_one hb] at ev
      cases q : evE Φ shs e nv with
      | ok r nv' => rw [q] at ev; cases ev
      | exc c as nv' => rw [q] at ev; cases ev
      | stuck => rw [q] at ev; cases ev
  | exc c as nv1 => rw [ev] at hd; exact hd
  | stuck => rw [ev] at hd; exact hd
theorem sndI_rng2 {tg x y : Expr} {e f : E} {p pos : Pos} (hg : isGl C.sc "range" = true) (hm : C.mg "range" = none) (ns : noStar x = true) (ns2 : noStar y = true) (h : SndA C W [x, y] (evOs Φ shs [e, f])) :
    SndI C W tg (.Call (.Name "range" p) [x, y] [] pos) (itf Φ shs .rng [e, f]) := by
  intro M H σ nv R st hd
  refine tI.by (fun X hX => pi_range2 (gl_of hX hg) (by rw [hX.mg]; exact hm) (PAo hX [x, y]) (by rw [star_cons ns, star_cons ns2]; rfl) (by rw [star_cons ns2]; rfl)) ?_
  unfold itf at hd
  refine h M H σ nv _ st ?_
  cases ev : evOs Φ shs [e, f] nv with
  | ok os nv1 =>
    rw [ev] at hd
    intro M1 H1 s1 st1 vs hv
    have hd := DoneX.later hd s1
    simp only [Rs.bind] at hd
    have key : ∀ a b : Int, os = [.inl (.int a), .inl (.int b)] → ∃ i j : Int, vs = [.int i, .int j] ∧ (-(2 ^ 62) ≤ i ∧ i < 2 ^ 62 ∧ -(2 ^ 62) ≤ j ∧ j < 2 ^ 62) ∧ R (Itr i (j - i).toNat) H1 := fun a b eo => by
      subst eo
      simp only [items] at hd
      obtain ⟨v, vs', rfl, h1, w, ws', rfl, h2, h3⟩ := hv
      have h3 : ws' = [] := h3
      subst h3
      have h1 : Rep C.K M1 (.int a) v := h1
      have h2 : Rep C.K M1 (.int b) w := h2
      simp only [Rep] at h1 h2
      subst h1 h2
      by_cases hb62 : (b62 a && b62 b) = true
      · rw [if_pos hb62] at hd
        rw [Bool.and_eq_true] at hb62
        have b1 := b62_ok hb62.1
        have b2 := b62_ok hb62.2
        exact ⟨a, b, rfl, ⟨b1.1, b1.2, b2.1, b2.2⟩, hd M1 H1 (Step.refl _ _ _) st1 _ (jok_rng a (b - a).toNat)⟩
      · rw [if_neg hb62] at hd; exact hd.elim
    cases hi : items .rng os with
    | none => rw [hi] at hd; exact hd.elim
    | some xs =>
      have hl := evOs_len ev
      match os, hi, hl with
      | [.inl (.int a), .inl (.int b)], hi, hl => exact key a b rfl
      | [.inr _, _], hi, hl => cases hi
      | [.inl (.int _), .inr _], hi, hl => cases hi
      | [.inl (.int _), .inl .non], hi, hl => cases hi
      | [.inl (.int _), .inl (.bl _)], hi, hl => cases hi
      | [.inl (.int _), .inl (.str _)], hi, hl => cases hi
      | [.inl (.int _), .inl (.tup _)], hi, hl => cases hi
      | [.inl (.int _), .inl (.lst _)], hi, hl => cases hi
      | [.inl (.int _), .inl (.scr _)], hi, hl => cases hi
      | [.inl .non, _], hi, hl => cases hi
      | [.inl (.bl _), _], hi, hl => cases hi
      | [.inl (.str _), _], hi, hl => cases hi
      | [.inl (.tup _), _], hi, hl => cases hi
      | [.inl (.lst _), _], hi, hl => cases hi
      | [.inl (.scr _), _], hi, hl => cases hi
  | exc c as nv1 => rw [ev] at hd; exact hd
  | stuck => rw [ev] at hd; exact hd
end
end G
namespace G
open PySem PySem.Spec PyProof.Rows L2
variable [Tb]
section
variable {C : Cfg} {W : WX} {M H M1 H1 : Hp} {σ σ' : L2.St} {nv nv1 : Nv} {Φ : Fn} {shs : Nat → Nat → Shape}
/-! ### the slots of a block -/
theorem wipeN_length (nv : Nv) : ∀ vs : List Nat, (wipeN nv vs).length = nv.length
  | [] => rfl
  | v :: vs => by unfold wipeN; rw [List.length_set, wipeN_length nv vs]
theorem wipeN_some {i : Nat} {x : Sl} : ∀ {vs : List Nat}, (wipeN nv vs)[i]? = some (some x) → nv[i]? = some (some x) ∧ i ∉ vs
  | [], h => ⟨h, by simp⟩
  | v :: vs, h => by
    unfold wipeN at h
    by_cases hi : v = i
    · subst hi
      rw [List.getElem?_set] at h
      split at h
      · split at h <;> cases h
      · contradiction
    · rw [List.getElem?_set_ne hi] at h
      obtain ⟨h1, h2⟩ := wipeN_some h
      exact ⟨h1, by simp only [List.mem_cons, not_or]; exact ⟨fun e => hi e.symm, h2⟩⟩
theorem wipe_out' {i : Nat} : ∀ {vs : List Nat}, i ∉ vs → (wipe σ vs)[i]? = σ[i]?
  | [], h => rfl
  | v :: vs, h => by
    simp only [List.mem_cons, not_or] at h
    unfold wipe
    rw [List.getElem?_set_ne (fun e => h.1 e.symm)]
    exact wipe_out' h.2
theorem wipe_in {i : Nat} : ∀ {vs : List Nat}, i ∈ vs → i < σ.length → (wipe σ vs)[i]? = some none
  | v :: vs, h, hl => by
    unfold wipe
    by_cases e : v = i
    · subst e
      rw [List.getElem?_set_self (by rw [wipe_length]; exact hl)]
    · rw [List.getElem?_set_ne e]
      exact wipe_in ((List.mem_cons.mp h).resolve_left (fun z => e z.symm)) hl
theorem wipe_eq {vs : List Nat} (hl : σ'.length = σ.length) (h : ∀ j, j ∉ vs → σ'[j]? = σ[j]?) : wipe σ' vs = wipe σ vs := by
  apply List.ext_getElem?
  intro j
  by_cases hj : j ∈ vs
  · by_cases hb : j < σ.length
    · rw [wipe_in hj hb, wipe_in hj (by rw [hl]; exact hb)]
    · rw [List.getElem?_eq_none (by rw [wipe_length, hl]; omega), List.getElem?_eq_none (by rw [wipe_length]; omega)]
  · rw [wipe_out' hj, wipe_out' hj, h j hj]
theorem StR.wiped (st : StR C.K M H σ nv) (vs : List Nat) : StR C.K M H (wipe σ vs) (wipeN nv vs) ∧ ∀ a, Own (wipe σ vs) (wipeN nv vs) a → Own σ nv a := by
  refine ⟨⟨st.ext, by rw [wipeN_length, wipe_length, st.len], fun i s h => ?_, fun i j f g xs ys v h1 h2 h3 h4 => ?_, st.tb⟩, fun a h => ?_⟩
  · obtain ⟨h1, h2⟩ := wipeN_some h
    rw [wipe_out' h2]
    exact st.get i s h1
  · obtain ⟨h1, n1⟩ := wipeN_some h1
    obtain ⟨h2, n2⟩ := wipeN_some h2
    rw [wipe_out' n1] at h3
    rw [wipe_out' n2] at h4
    exact st.apart i j f g xs ys v h1 h2 h3 h4
  · rcases h with ⟨i, f, ds, h1, h2⟩ | h
    case inr => exact .inr h
    obtain ⟨h1, n1⟩ := wipeN_some h1
    rw [wipe_out' n1] at h2
    exact .inl ⟨i, f, ds, h1, h2⟩
theorem back_length (old : Nv) : ∀ vs : List Nat, (back old nv vs).length = nv.length
  | [] => rfl
  | v :: vs => by unfold back; rw [List.length_set, back_length old vs]
theorem back_some {old : Nv} {i : Nat} {x : Sl} : ∀ {vs : List Nat}, (back old nv vs)[i]? = some (some x) → (i ∈ vs ∧ old[i]? = some (some x)) ∨ (i ∉ vs ∧ nv[i]? = some (some x))
  | [], h => .inr ⟨by simp, h⟩
  | v :: vs, h => by
    unfold back at h
    by_cases hi : v = i
    · subst hi
      rw [List.getElem?_set] at h
      split at h
      · split at h
        · have h : old[v]?.join = some x := Option.some.inj h
          refine .inl ⟨by simp, ?_⟩
          cases q : old[v]? with
          | none => rw [q] at h; cases h
          | some o =>
            rw [q] at h
            have h : o = some x := h
            rw [h]
        · cases h
      · contradiction
    · rw [List.getElem?_set_ne hi] at h
      rcases back_some h with ⟨h1, h2⟩ | ⟨h1, h2⟩
      · exact .inl ⟨List.mem_cons_of_mem _ h1, h2⟩
      · exact .inr ⟨by simp only [List.mem_cons, not_or]; exact ⟨fun e => hi e.symm, h1⟩, h2⟩
/-- behind a block the slots are as before, but what is own may have changed -/
theorem StR.backed {M5 H5 : Hp} {nv5 : Nv} {vs : List Nat} (st : StR C.K M H σ nv) (st5 : StR C.K M5 H5 (wipe σ vs) nv5) (s : Step M H (Own (wipe σ vs) (wipeN nv vs)) M5 H5 (Own (wipe σ vs) nv5))
    (out : ∀ i s, nv5[i]? = some (some s) → i ∉ vs) : StR C.K M5 H5 σ (back nv nv5 vs) ∧ Step M H (Own σ nv) M5 H5 (Own σ (back nv nv5 vs)) := by
  have wo := (st.wiped vs).2
  -- an own list of a hidden slot
  have hid : ∀ i f ds a, i ∈ vs → nv[i]? = some (some (.lv f ds)) → σ[i]? = some (some (.ref a)) → ¬ Own (wipe σ vs) (wipeN nv vs) a := fun i f ds a hi h1 h2 z => by
    obtain ⟨v, e1, a', o, rfl, _, e3, e4⟩ := st.get i _ h1
    rw [h2] at e1
    cases e1
    rcases z with ⟨j, g, ys, h3, h4⟩ | z
    case inr => exact st.notTab e3 (fun _ => e4.ntbl) z
    obtain ⟨h3, n3⟩ := wipeN_some h3
    rw [wipe_out' n3] at h4
    have := st.apart i j f g ds ys _ h1 h3 h2 h4
    exact n3 (this ▸ hi)
  have keepL : ∀ i f ds, i ∈ vs → nv[i]? = some (some (.lv f ds)) → ∃ a xs, σ[i]? = some (some (.ref a)) ∧ M5 a = none ∧ H5 a = some xs ∧ LoR C.K M5 f ds xs ∧ ¬ Own (wipe σ vs) nv5 a := fun i f ds hi h => by
    obtain ⟨v, e1, a, xs, rfl, e2, e3, e4⟩ := st.get i _ h
    have no := hid i f ds a hi h e1
    refine ⟨a, xs, e1, ?_, s.keep _ _ e3 no, LoR.mono s.mm e4, fun z => ?_⟩
    · cases q : M5 a with
      | none => rfl
      | some o =>
        rcases s.mnew a o q with z | z | z
        · rw [e2] at z; cases z
        · exact (no z).elim
        · rw [e3] at z; cases z
    · rcases s.own a z with z | z
      · exact no z
      · rw [e3] at z; cases z
  refine ⟨⟨st5.ext, by rw [back_length, st5.len, wipe_length], fun i t h => ?_, fun i j f g xs ys v h1 h2 h3 h4 => ?_, st5.tb⟩, s.mm, fun a o h n => s.keep a o h fun z => n (wo a z), fun a h => ?_, s.dom, fun a o h => ?_⟩
  · rcases back_some h with ⟨hi, h1⟩ | ⟨hi, h1⟩
    · cases t with
      | val d =>
        obtain ⟨v, e1, e2⟩ := st.get i _ h1
        exact ⟨v, e1, Rep.mono s.mm e2⟩
      | fn m ds =>
        obtain ⟨v, e1, e2⟩ := st.get i _ h1
        exact ⟨v, e1, FnR.mono s.mm e2⟩
      | lv f ds =>
        obtain ⟨a, xs, e1, e2, e3, e4, _⟩ := keepL i f ds hi h1
        exact ⟨_, e1, a, xs, rfl, e2, e3, e4⟩
    · obtain ⟨v, e1, e2⟩ := st5.get i _ h1
      rw [wipe_out' hi] at e1
      exact ⟨v, e1, e2⟩
  · rcases back_some h1 with ⟨i1, h1⟩ | ⟨i1, h1⟩ <;> rcases back_some h2 with ⟨i2, h2⟩ | ⟨i2, h2⟩
    · exact st.apart i j f g xs ys v h1 h2 h3 h4
    · obtain ⟨a, zs, e1, _, _, _, no⟩ := keepL i f xs i1 h1
      rw [h3] at e1
      cases e1
      exact (no (.inl ⟨j, g, ys, h2, by rw [wipe_out' i2]; exact h4⟩)).elim
    · obtain ⟨a, zs, e1, _, _, _, no⟩ := keepL j g ys i2 h2
      rw [h4] at e1
      cases e1
      exact (no (.inl ⟨i, f, xs, h1, by rw [wipe_out' i1]; exact h3⟩)).elim
    · exact st5.apart i j f g xs ys v h1 h2 (by rw [wipe_out' i1]; exact h3) (by rw [wipe_out' i2]; exact h4)
  · rcases h with ⟨i, f, ds, h1, h2⟩ | h
    case inr => exact .inl (.inr h)
    rcases back_some h1 with ⟨hi, h1⟩ | ⟨hi, h1⟩
    · exact .inl (.inl ⟨i, f, ds, h1, h2⟩)
    · rcases s.own a (.inl ⟨i, f, ds, h1, by rw [wipe_out' hi]; exact h2⟩) with z | z
      · exact .inl (wo a z)
      · exact .inr z
  · rcases s.mnew a o h with z | z | z
    · exact .inl z
    · exact .inr (.inl (wo a z))
    · exact .inr (.inr z)
/-! ### list comprehensions -/
/-- the configuration of a block -/
def tgOk (scope : Scope) (x : Str) : Bool := decide (scope.names.lookup x = some .local) || decide (scope.names.lookup x = some .cell)
def Cfg.blk (C : Cfg) (scope : Scope) : Cfg := { C with sc := relS scope C.sc, st := tgOk scope, cd := none }
abbrev W0 : WX := fun _ _ _ _ => False
theorem AtE.blk {X : Cx} (hX : AtE C W X) (scope : Scope) (s : Shared) (H : Hp) (D : Addr) (cl : List (Str × Addr)) (fp : List Addr) : AtE (C.blk scope) W0 (X.blk s H scope (compEnvC scope cl D X.env) fp) := by
  have esc : (compEnvC scope cl D X.env).scope = relS scope C.sc := by rw [← hX.sc]; rfl
  refine ⟨hX.prog, hX.w, hX.K, hX.mg, hX.base, hX.N, esc, hX.calm, hX.room, hX.nd, takes0, fun x hx => ?_, fun q h => nomatch h⟩
  rcases (Bool.or_eq_true _ _).mp hx with hx | hx
  · have hx : scope.names.lookup x = some .local := of_decide_eq_true hx
    have : (compEnvC scope cl D X.env).scope.names.lookup x = some .local := by
      rw [esc]
      exact lookup_relS_keep (by decide) hx
    exact ⟨.inl this, .inr this⟩
  · have hx : scope.names.lookup x = some .cell := of_decide_eq_true hx
    have : (compEnvC scope cl D X.env).scope.names.lookup x = some .cell := by
      rw [esc]
      exact lookup_relS_keep (by decide) hx
    exact ⟨.inr this, .inl (by simp [hx])⟩
structure tC1 (C : Cfg) (W : WX) (xs : List Expr)  (σ : L2.St) (H : Hp) (Q : Bool → Hp → Prop) : Prop where
  un : ∀ X, AtE C W X → ∀ pins s, Inv X pins σ H s →
  wpAny (model X.prog X.w) X.A (forIn xs true fun c r => if r = true then do let ok ← isTrue c X.env (eval c X.env); pure (ForInStep.yield ok) else pure (ForInStep.yield r)) (TP X pins σ Q) X.xe s
theorem PTso {X : Cx} (h : AtE C W X) (xs : List Expr) : PTs X xs (tC1 C W xs) := ⟨fun pins s σ H Q I t => t.un X h pins s I⟩
def SndC (C : Cfg) (W : WX) (xs : List Expr) (f : Nv → Rs Bool) : Prop := ∀ M H σ nv (Q : Bool → Hp → Prop), StR C.K M H σ nv → DoneX C W M H σ nv (f nv) (fun b nv' M' H' => Q b H') → tC1 C W xs σ H Q
theorem sndC_nil : SndC C W [] (evCs Φ shs []) := by
  intro M H σ nv Q st hd
  refine ⟨fun X hX pins s I => ?_⟩
  rw [evCs] at hd
  exact pts_nil.run pins s σ H Q I (hd M H (Step.refl _ _ _) st)
theorem DoneX.nox {α : Type} {res : Rs α} {post : α → Nv → Hp → Hp → Prop} (h : DoneX C W M H σ nv res.nox post) {W' : WX} : DoneX C W' M H σ nv res post := by
  cases res with
  | ok a e => exact h
  | exc c as e => exact h.elim
  | stuck => exact h
noncomputable def turnOf (Φ : Fn) (shs : Nat → Nat → Shape) (t : T) (cs : List E) (elt : E) (own : List Nat) (d : D) (nv : Nv) : Rs (Option D) := (asgD t d nv).bind fun _ nv2 => (evCs Φ shs cs nv2).bind fun b nv3 =>
  if b = true then (evE Φ shs elt nv3).bind fun r nv4 => .ok (some r.frz) (wipeN nv4 own) else .ok none (wipeN nv3 own)
end
end G
namespace G
open PySem PySem.Spec PyProof.Rows L2
variable [Tb]
section
variable {C : Cfg} {W : WX} {M H M1 H1 : Hp} {σ σ' : L2.St} {nv nv1 : Nv} {Φ : Fn} {shs : Nat → Nat → Shape}
theorem Step.widen {O O' : Addr → Prop} {M' H' : Hp} {O2 O2' : Addr → Prop} (s : Step M H O M' H' O') (h1 : ∀ a, O a → O2 a) (h2 : ∀ a, O2' a → O' a) : Step M H O2 M' H' O2' :=
  ⟨s.mm, fun a o h n => s.keep a o h fun z => n (h1 a z), fun a h => (s.own a (h2 a h)).imp (h1 a) id, s.dom, fun a o h => (s.mnew a o h).imp id (Or.imp (h1 a) id)⟩
theorem asgD_ok : ∀ (t : T) {d : D} {nv : Nv} {r : Rs Unit}, asgD t d nv = r → r = .stuck ∨ ∃ nv', r = .ok () nv' ∧ nv'.length = nv.length
  | .nm i, d, nv, r, h => by
    simp only [asgD, stSlot] at h
    split at h
    · exact .inl h.symm
    · exact .inr ⟨_, h.symm, by simp⟩
    · exact .inl h.symm
  | .two a b, d, nv, r, h => by
    cases d with
    | tup ds =>
      match ds, h with
      | [x, y], h =>
        simp only [asgD] at h
        rcases asgD_ok a (d := x) (nv := nv) rfl with e | ⟨nv1, e, l1⟩
        · rw [e] at h; exact .inl h.symm
        · rw [e] at h
          simp only [Rs.bind] at h
          rcases asgD_ok b (d := y) (nv := nv1) rfl with e2 | ⟨nv2, e2, l2⟩
          · rw [e2] at h; exact .inl h.symm
          · rw [e2] at h; exact .inr ⟨nv2, h.symm, l2.trans l1⟩
      | [], h => exact .inl h.symm
      | [_], h => exact .inl h.symm
      | _ :: _ :: _ :: _, h => exact .inl h.symm
    | _ => exact .inl h.symm
  | .nms is, d, nv, r, h => by
    have go : ∀ (is : List Nat) (ds : List D) (nv : Nv) (r : Rs Unit), asgNs is ds nv = r → r = .stuck ∨ ∃ nv', r = .ok () nv' ∧ nv'.length = nv.length := by
      intro is
      induction is with
      | nil =>
        intro ds nv r h
        cases ds with
        | nil => exact .inr ⟨nv, h.symm, rfl⟩
        | cons d ds => exact .inl h.symm
      | cons i is ih =>
        intro ds nv r h
        cases ds with
        | nil => exact .inl h.symm
        | cons d ds =>
          simp only [asgNs, stSlot] at h
          split at h
          · exact .inl h.symm
          · rcases ih ds _ _ rfl with e | ⟨nv', e, l⟩
            · simp only [Rs.bind] at h; rw [e] at h; exact .inl h.symm
            · simp only [Rs.bind] at h; rw [e] at h; exact .inr ⟨nv', h.symm, by rw [l]; simp⟩
          · exact .inl h.symm
    cases d with
    | tup ds => exact go is ds nv r h
    | _ => exact .inl h.symm
  | .three a b c, d, nv, r, h => by
    cases d with
    | tup ds =>
      match ds, h with
      | [x, y, z], h =>
        simp only [asgD] at h
        rcases asgD_ok a (d := x) (nv := nv) rfl with e | ⟨nv1, e, l1⟩
        · rw [e] at h; exact .inl h.symm
        · rw [e] at h
          simp only [Rs.bind] at h
          rcases asgD_ok b (d := y) (nv := nv1) rfl with e2 | ⟨nv2, e2, l2⟩
          · rw [e2] at h; exact .inl h.symm
          · rw [e2] at h
            simp only [Rs.bind] at h
            rcases asgD_ok c (d := z) (nv := nv2) rfl with e3 | ⟨nv3, e3, l3⟩
            · rw [e3] at h; exact .inl h.symm
            · rw [e3] at h; exact .inr ⟨nv3, h.symm, l3.trans (l2.trans l1)⟩
      | [], h => exact .inl h.symm
      | [_], h => exact .inl h.symm
      | [_, _], h => exact .inl h.symm
      | _ :: _ :: _ :: _ :: _, h => exact .inl h.symm
    | _ => exact .inl h.symm
theorem kept_at {O O' : Addr → Prop} {M' H' : Hp} {a : Addr} {o : HO} (s : Step M H O M' H' O') (hH : H a = some o) (hM : M a = none) (no : ¬ O a) : H' a = some o ∧ M' a = none ∧ ¬ O' a := by
  refine ⟨s.keep a o hH no, ?_, fun z => ?_⟩
  · cases q : M' a with
    | none => rfl
    | some u =>
      rcases s.mnew a u q with z | z | z
      · rw [hM] at z; cases z
      · exact (no z).elim
      · rw [hH] at z; cases z
  · rcases s.own a z with z | z
    · exact no z
    · rw [hH] at z; cases z
theorem wipeN_out {i : Nat} {s : Sl} {nv : Nv} {vs : List Nat} (h : (wipeN nv vs)[i]? = some (some s)) : i ∉ vs := (wipeN_some h).2
/-- the heap without the list that is being made -/
def hide (D0 : Addr) (H : Hp) : Hp := fun a => if a = D0 then none else H a
theorem hide_at {D0 : Addr} {H : Hp} : hide D0 H D0 = none := if_pos rfl
theorem hide_ne {D0 a : Addr} {H : Hp} (h : a ≠ D0) : hide D0 H a = H a := if_neg h
theorem hide_some {D0 a : Addr} {H : Hp} {o : HO} (h : hide D0 H a = some o) : a ≠ D0 ∧ H a = some o := by
  by_cases e : a = D0
  · subst e; rw [hide_at] at h; cases h
  · rw [hide_ne e] at h; exact ⟨e, h⟩
theorem hide_none {D0 a : Addr} {H : Hp} (h : H a = none) : hide D0 H a = none := by
  by_cases e : a = D0
  · subst e; exact hide_at
  · rw [hide_ne e]; exact h
theorem hide_upd {D0 : Addr} {H : Hp} {o : HO} : hide D0 (upd H D0 o) = hide D0 H := by
  funext a
  by_cases e : a = D0
  · subst e; rw [hide_at, hide_at]
  · rw [hide_ne e, hide_ne e, upd_ne e]
theorem Step.hide {O O' : Addr → Prop} {M' H' : Hp} {D0 : Addr} (s : Step M H O M' H' O') : Step M (hide D0 H) O M' (hide D0 H') O' :=
  ⟨s.mm, fun a o h n => by
    obtain ⟨h1, h2⟩ := hide_some h
    rw [hide_ne h1]
    exact s.keep a o h2 n, fun a h => (s.own a h).imp id hide_none, fun a h => by
    by_cases e : a = D0
    · subst e; exact hide_at
    · rw [hide_ne e] at h; exact hide_none (s.dom a h), fun a o h => (s.mnew a o h).imp id (Or.imp id hide_none)⟩
theorem Step.show {O : Addr → Prop} {D0 : Addr} : Step M (G.hide D0 H) O M H O :=
  ⟨Same.refl _, fun a o h _ => (hide_some h).2, fun a h => .inl h, fun a h => hide_none h, fun a o h => .inl h⟩
/-- a turn of a comprehension -/
theorem turn_ok {scope : Scope} {t : T} {cs : List E} {elt : E} {own : List Nat} {tg ex : Expr} {ifs : List Expr} {x : V} {d : D} {o : Option D → Nv → Rs (List D)} {post : List D → Nv → Hp → Hp → Prop} {D0 : Addr} {acc : List D} {vs : List V} {Nx : Hp → Prop}
    (ht : chkT1 (C.blk scope).N (C.blk scope).st t tg = true) (hts : ∀ i ∈ t.slots, i ∈ own) (hc : SndC (C.blk scope) W0 ifs (evCs Φ shs cs)) (he : SndE (C.blk scope) W0 ex (evE Φ shs elt))
    (st : StR C.K M H (wipe σ own) nv) (r : Rep C.K M d x) (hD : H D0 = some (.lst vs)) (hDr : Reps C.K M acc vs) (hDn : M D0 = none) (hDo : ¬ Own (wipe σ own) nv D0)
    (hd : DoneX (C.blk scope) W0 M (hide D0 H) (wipe σ own) nv ((turnOf Φ shs t cs elt own d nv).bind o).nox post)
    (hz : ∀ a nv5 M5 H5, DoneX (C.blk scope) W0 M5 (hide D0 H5) (wipe σ own) nv5 (o (some a) nv5).nox post → acc.length < SZ)
    (hS : ∀ y w nv5 M5 H5, StR C.K M5 H5 (wipe σ own) nv5 → Step M H (Own (wipe σ own) nv) M5 H5 (Own (wipe σ own) nv5) → DoneX (C.blk scope) W0 M5 (hide D0 H5) (wipe σ own) nv5 (o (some y) nv5).nox post →
      M5 D0 = none → ¬ Own (wipe σ own) nv5 D0 → (∀ i s, nv5[i]? = some (some s) → i ∉ own) → H5 D0 = some (.lst vs) → Reps C.K M5 acc vs → Rep C.K M5 y w → Nx (upd H5 D0 (.lst (vs ++ [w]))))
    (hN : ∀ nv5 M5 H5, StR C.K M5 H5 (wipe σ own) nv5 → Step M H (Own (wipe σ own) nv) M5 H5 (Own (wipe σ own) nv5) → DoneX (C.blk scope) W0 M5 (hide D0 H5) (wipe σ own) nv5 (o none nv5).nox post →
      M5 D0 = none → ¬ Own (wipe σ own) nv5 D0 → (∀ i s, nv5[i]? = some (some s) → i ∉ own) → H5 D0 = some (.lst vs) → Reps C.K M5 acc vs → Nx H5) :
    tG (C.blk scope) W0 tg x (wipe σ own) H fun σ2 H2 => wipe σ2 own = wipe σ own ∧ tC1 (C.blk scope) W0 ifs σ2 H2 fun b H3 =>
      if b = true then tE (C.blk scope) W0 ex σ2 H3 fun y H4 => ∃ acc, H4 D0 = some (.lst acc) ∧ acc.length < sizeLine ∧ Nx (upd H4 D0 (.lst (acc ++ [y]))) else Nx H3 := by
  unfold turnOf at hd
  rcases asgD_ok t (d := d) (nv := nv) rfl with e1 | ⟨nv2, e1, ln⟩
  · rw [e1] at hd; exact hd.elim
  · rw [e1] at hd
    simp only [Rs.bind] at hd
    refine sndG t (C := C.blk scope) (W := W0) ht st r e1 fun σ2 st2 o2 q2 => ?_
    have ew : wipe σ2 own = wipe σ own := by
      have : wipe σ2 own = wipe (wipe σ own) own := by
        refine wipe_eq ?_ fun j hj => (q2 j fun z => hj (hts j z)).1
        rw [← st2.len, ln, st.len]
      rw [this]
      exact wipe_eq (wipe_length _ _) fun j hj => wipe_out' hj
    refine ⟨ew, ?_⟩
    have fin : ∀ {nv4 : Nv} {M4 H4 : Hp}, StR C.K M4 H4 σ2 nv4 → Step M H (Own σ2 nv2) M4 H4 (Own σ2 nv4) → StR C.K M4 H4 (wipe σ own) (wipeN nv4 own) ∧ Step M H (Own (wipe σ own) nv) M4 H4 (Own (wipe σ own) (wipeN nv4 own)) := fun {nv4 M4 H4} st4 s4 => by
      obtain ⟨h1, h2⟩ := st4.wiped own
      rw [ew] at h1 h2
      exact ⟨h1, s4.widen o2 h2⟩
    cases e2 : evCs Φ shs cs nv2 with
    | stuck => rw [e2] at hd; exact hd.elim
    | exc c as nv3 => rw [e2] at hd; exact hd.elim
    | ok b nv3 =>
      rw [e2] at hd
      simp only [Rs.bind] at hd
      refine hc M H σ2 nv2 _ st2 ?_
      rw [e2]
      intro M3 H3 s3 st3
      cases b with
      | false =>
        rw [if_neg (by decide)] at hd ⊢
        obtain ⟨w1, w2⟩ := fin st3 s3
        obtain ⟨k1, k2, k3⟩ := kept_at w2 hD hDn hDo
        exact hN _ M3 H3 w1 w2 (DoneX.later hd w2.hide) k2 k3 (fun i s h => wipeN_out h) k1 (Reps.mono w2.mm hDr)
      | true =>
        rw [if_pos rfl] at hd ⊢
        refine he M3 H3 σ2 nv3 _ st3 ?_
        cases e3 : evE Φ shs elt nv3 with
        | stuck => rw [e3] at hd; exact hd.elim
        | exc c as nv4 => rw [e3] at hd; exact hd.elim
        | ok rr nv4 =>
          rw [e3] at hd
          simp only [Rs.bind] at hd
          intro v M4 H4 s4 st4 r4
          obtain ⟨M5, st5, rp, s5, _⟩ := freeze st4 r4 s4
          obtain ⟨w1, w2⟩ := fin st5 (s3.trans s5)
          obtain ⟨k1, k2, k3⟩ := kept_at w2 hD hDn hDo
          have hd5 := DoneX.later hd (w2.hide (D0 := D0))
          have lz := hz _ _ _ H4 hd5
          refine ⟨vs, k1, ?_, hS _ v _ M5 H4 w1 w2 hd5 k2 k3 (fun i s h => wipeN_out h) k1 (Reps.mono w2.mm hDr) rp⟩
          rw [← hDr.length, sizeLine_eq]
          exact lz
def blkOk (N : List Str) (sc scope : Scope) (own : List Nat) : Bool := blkC N sc scope (own.map fun i => (N.getD i "", i))
theorem Prim.step {M' H' : Hp} (p : Prim M H M' H') (O : Addr → Prop) : Step M H O M' H' O :=
  ⟨p.mm, fun a o h _ => p.hh _ _ h, fun a h => .inl h, fun a h => (by
    cases q : H a with
    | none => rfl
    | some o => rw [p.hh _ _ q] at h; cases h), fun a o h => (p.mnew a o h).imp id .inr⟩
theorem comp_reads {scope : Scope} {t : T} {k : Ik} {es cs : List E} {elt : E} {own : List Nat} {tg it ex : Expr} {ifs : List Expr}
    (ht : chkT1 C.N (tgOk scope) t tg = true) (hts : ∀ i ∈ t.slots, i ∈ own)
    (hi : SndI C W tg it (itf Φ shs k es)) (hc : SndC (C.blk scope) W0 ifs (evCs Φ shs cs)) (he : SndE (C.blk scope) W0 ex (evE Φ shs elt)) {Q : VK} (st : StR C.K M H σ nv) (hd : DoneE C W M H σ nv (evE Φ shs (.comp t k es cs elt own) nv) Q) :
    tLc (tI C W tg it) (tG (C.blk scope) W0 tg) (tC1 (C.blk scope) W0 ifs) (tE (C.blk scope) W0 ex) own σ H Q := by
  · rw [evE] at hd
    refine hi M H σ nv _ st ?_
    unfold itf
    cases e1 : evOs Φ shs es nv with
    | stuck => rw [e1] at hd; exact hd.elim
    | exc c as nv1 => rw [e1] at hd; exact hd
    | ok os nv1 =>
      rw [e1] at hd
      simp only [Rs.bind] at hd ⊢
      cases e2 : items k os with
      | none => rw [e2] at hd; exact hd.elim
      | some xs =>
        rw [e2] at hd
        simp only [Rs.bind] at hd ⊢
        intro M1 H1 s1 st1 J jok D0 hD0
        have hd := DoneE.later hd s1
        have mD0 : M1 D0 = none := by
          cases q : M1 D0 with
          | none => rfl
          | some o => rw [st1.ext _ _ q] at hD0; cases hD0
        have oD0 : ¬ Own σ nv1 D0 := fun z => by
          obtain ⟨_, vs, h⟩ := st1.own_at z
          rw [hD0] at h; cases h
        -- what the whole is to reach
        let post : List D → Nv → Hp → Hp → Prop := fun ys nv5 M5 H5 => (∀ i s, nv5[i]? = some (some s) → i ∉ own) → Step M1 H1 (Own (wipe σ own) (wipeN nv1 own)) M5 H5 (Own (wipe σ own) nv5) → ∀ vs, H5 D0 = some (.lst vs) → Reps C.K M5 ys vs → M5 D0 = none → ¬ Own (wipe σ own) nv5 D0 → Q (.ref D0) H5
        have hd0 : DoneX (C.blk scope) W0 M1 H1 (wipe σ own) (wipeN nv1 own) (compLoop (turnOf Φ shs t cs elt own) xs [] (wipeN nv1 own)).nox post := by
          have hd' : DoneE C W M1 H1 σ nv1 ((compLoop (turnOf Φ shs t cs elt own) xs [] (wipeN nv1 own)).nox.bind fun ys nv5 => .ok (.own ys) (back nv1 nv5 own)) Q := hd
          cases e3 : compLoop (turnOf Φ shs t cs elt own) xs [] (wipeN nv1 own) with
          | stuck => rw [e3] at hd'; exact hd'
          | exc c as nv5 => rw [e3] at hd'; exact hd'
          | ok ys nv5 =>
            rw [e3] at hd'
            intro M5 H5 s5 st5 out s5' vs h1 h2 h3 h4
            obtain ⟨b1, b2⟩ := st1.backed (vs := own) st5 s5' out
            have oB : ¬ Own σ (back nv1 nv5 own) D0 := fun z => by
              rcases z with ⟨i, f, ds, h5, h6⟩ | z
              case inr => exact oD0 (.inr z)
              rcases back_some h5 with ⟨hi, h5⟩ | ⟨hi, h5⟩
              · exact oD0 (.inl ⟨i, f, ds, h5, h6⟩)
              · exact h4 (.inl ⟨i, f, ds, h5, by rw [wipe_out' hi]; exact h6⟩)
            refine hd' _ M5 H5 ⟨b2.mm, b2.keep, fun a h => ?_, b2.dom, b2.mnew⟩ b1 ⟨D0, vs, rfl, h1, h3, oB, h2⟩
            rcases h with z | z
            · exact b2.own a z
            · have z' : V.ref D0 = V.ref a := z
              injection z' with z'
              subst z'
              exact .inr hD0
        have cext : Same M1 (upd H1 D0 (.lst [])) := fun a o h => by
          rw [upd_ne (ne_of_none h mD0)]
          exact st1.ext _ _ h
        obtain ⟨wst, wown⟩ := st1.wiped own
        have smH : Same H1 (upd H1 D0 (.lst [])) := same_upd hD0
        have st2 : StR C.K M1 (upd H1 D0 (.lst [])) (wipe σ own) (wipeN nv1 own) := wst.grow (Same.refl _) (fun a o h => smH _ _ h) cext (fun a h => (wst.own_at h).1)
        have sD : Step M1 H1 (Own (wipe σ own) (wipeN nv1 own)) M1 (upd H1 D0 (.lst [])) (Own (wipe σ own) (wipeN nv1 own)) :=
          ⟨Same.refl _, fun a o h _ => smH _ _ h, fun a h => .inl h, fun a h => (by
            by_cases ha : a = D0
            · rw [ha]; exact hD0
            · rw [upd_ne ha] at h; exact h), fun a o h => .inl h⟩
        refine ⟨fun i m H' => m = xs.length - i ∧ i ≤ xs.length ∧ ∃ M' nv' acc vs, StR C.K M' H' (wipe σ own) nv' ∧ Step M1 H1 (Own (wipe σ own) (wipeN nv1 own)) M' H' (Own (wipe σ own) nv') ∧ H' D0 = some (.lst vs) ∧ Reps C.K M' acc vs ∧ M' D0 = none ∧ ¬ Own (wipe σ own) nv' D0 ∧
            (∀ i s, nv'[i]? = some (some s) → i ∉ own) ∧ DoneX (C.blk scope) W0 M' (hide D0 H') (wipe σ own) nv' (compLoop (turnOf Φ shs t cs elt own) (xs.drop i) acc nv').nox post,
          ⟨xs.length, by simp, Nat.zero_le _, M1, wipeN nv1 own, [], [], st2, sD, upd_same, by simp [Reps], mD0, fun z => oD0 (wown _ z), fun i s h => wipeN_out h, by
            rw [hide_upd]
            simpa using DoneX.later hd0 (Step.mk (Same.refl _) (fun a o h _ => by rw [hide_ne (ne_of_none h hD0)]; exact h) (fun a h => .inl h) (fun a h => by
              by_cases e : a = D0
              · rw [e]; exact hD0
              · rw [hide_ne e] at h; exact h) (fun a o h => .inl h))⟩, ?_⟩
        rintro i m H' ⟨rfl, hile, M', nv', acc, vs, st', s', hD, hDr, hDn, hDo, out, hdl⟩
        by_cases hlt : i < xs.length
        · right
          have hx : xs[i]? = some xs[i] := List.getElem?_eq_getElem hlt
          obtain ⟨g1, g2⟩ := jok.go M' H' i xs[i] s'.mm st'.ext hx
          refine ⟨g1, fun H'' => ∃ m', m' < xs.length - i ∧ m' = xs.length - (i + 1) ∧ i + 1 ≤ xs.length ∧ ∃ M' nv' acc vs, StR C.K M' H'' (wipe σ own) nv' ∧ Step M1 H1 (Own (wipe σ own) (wipeN nv1 own)) M' H'' (Own (wipe σ own) nv') ∧ H'' D0 = some (.lst vs) ∧ Reps C.K M' acc vs ∧ M' D0 = none ∧ ¬ Own (wipe σ own) nv' D0 ∧
            (∀ i s, nv'[i]? = some (some s) → i ∉ own) ∧ DoneX (C.blk scope) W0 M' (hide D0 H'') (wipe σ own) nv' (compLoop (turnOf Φ shs t cs elt own) (xs.drop (i + 1)) acc nv').nox post, fun H'' h => h, fun x H3 hy => ?_⟩
          obtain ⟨M3, p3, r3⟩ := g2 x H3 hy
          have st3 : StR C.K M3 H3 (wipe σ own) nv' := st'.grow p3.mm (fun a o h => p3.hh _ _ h) p3.ext (fun a h => by
            cases q : M3 a with
            | none => rfl
            | some o =>
              obtain ⟨h1, ws, h2⟩ := st'.own_at h
              rcases p3.mnew a o q with z | z
              · rw [h1] at z; cases z
              · rw [h2] at z; cases z)
          have s3 : Step M' H' (Own (wipe σ own) nv') M3 H3 (Own (wipe σ own) nv') := p3.step _
          have ed : xs.drop i = xs[i] :: xs.drop (i + 1) := (List.drop_eq_getElem_cons hlt)
          rw [ed] at hdl
          obtain ⟨k1, k2, k3⟩ := kept_at s3 hD hDn hDo
          have hdl3 := DoneX.later hdl (s3.hide (D0 := D0))
          simp only [compLoop] at hdl3
          refine turn_ok (o := fun o nv1 => match o with
              | some y => if acc.length < SZ then compLoop (turnOf Φ shs t cs elt own) (xs.drop (i + 1)) (acc ++ [y]) nv1 else .stuck
              | none => compLoop (turnOf Φ shs t cs elt own) (xs.drop (i + 1)) acc nv1) (post := post) (D0 := D0) (acc := acc) (vs := vs) ht hts hc he st3 r3 k1 (Reps.mono p3.mm hDr) k2 k3 hdl3 (fun a nv5 M5 H5 h => ?_) (fun y w nv5 M5 H5 st5 s5 hd5 m5 o5 out5 h5 r5 ry => ?_) (fun nv5 M5 H5 st5 s5 hd5 m5 o5 out5 h5 r5 => ?_)
          · by_cases hz : acc.length < SZ
            · exact hz
            · simp only [if_neg hz] at h; exact h.elim
          · have lz : acc.length < SZ := by
              by_cases hz : acc.length < SZ
              · exact hz
              · simp only [if_neg hz] at hd5; exact hd5.elim
            simp only [if_pos lz] at hd5
            have e5 : Same M5 (upd H5 D0 (.lst (vs ++ [w]))) := fun a o h => by
              rw [upd_ne (ne_of_none h m5)]
              exact st5.ext _ _ h
            have st6 : StR C.K M5 (upd H5 D0 (.lst (vs ++ [w]))) (wipe σ own) nv5 := by
              refine ⟨e5, st5.len, fun j t h => ?_, st5.apart, fun p hp => ⟨(st5.tb p hp).1, tabS_upd (st5.tb p hp).2 h5 (fun _ z => nomatch z) (fun _ z => nomatch z)⟩⟩
              obtain ⟨v, e1, e2⟩ := st5.get j t h
              refine ⟨v, e1, ?_⟩
              cases t with
              | val d => exact e2
              | fn m ds => exact e2
              | lv f ds =>
                obtain ⟨a, zs, rfl, e3, e4, e6⟩ := e2
                have : a ≠ D0 := fun z => o5 (z ▸ .inl ⟨j, f, ds, h, e1⟩)
                exact ⟨a, zs, rfl, e3, by rw [upd_ne this]; exact e4, e6⟩
            have s6 : Step M1 H1 (Own (wipe σ own) (wipeN nv1 own)) M5 (upd H5 D0 (.lst (vs ++ [w]))) (Own (wipe σ own) nv5) := by
              have s6 := s'.trans (s3.trans s5)
              exact ⟨s6.mm, fun a o h n => by rw [upd_ne (ne_of_none h hD0)]; exact s6.keep a o h n, s6.own, fun a h => (by
                by_cases ha : a = D0
                · rw [ha]; exact hD0
                · rw [upd_ne ha] at h; exact s6.dom a h), s6.mnew⟩
            refine ⟨xs.length - (i + 1), by omega, rfl, hlt, M5, nv5, acc ++ [y], vs ++ [w], st6, s6, upd_same, r5.append (Reps.one ry), m5, o5, out5, ?_⟩
            rw [hide_upd]
            exact hd5
          · exact ⟨xs.length - (i + 1), by omega, rfl, hlt, M5, nv5, acc, vs, st5, s'.trans (s3.trans s5), h5, r5, m5, o5, out5, hd5⟩
        · have ei : i = xs.length := by omega
          subst ei
          left
          refine ⟨jok.stop M' H' s'.mm st'.ext, ?_⟩
          rw [List.drop_length] at hdl
          exact hdl M' H' Step.show st' out s' vs hD hDr hDn hDo
theorem snd_comp {scope : Scope} {t : T} {k : Ik} {es cs : List E} {elt : E} {own : List Nat} {tg it ex : Expr} {ifs : List Expr} {pos : Pos}
    (ok : blkOk C.N C.sc scope own = true) (ht : chkT1 C.N (tgOk scope) t tg = true) (hts : ∀ i ∈ t.slots, i ∈ own) (ps : plainSet it = true)
    (hi : SndI C W tg it (itf Φ shs k es)) (hc : SndC (C.blk scope) W0 ifs (evCs Φ shs cs)) (he : SndE (C.blk scope) W0 ex (evE Φ shs elt)) :
    SndE C W (.ListComp ex [⟨tg, it, ifs, 0⟩] scope pos) (evE Φ shs (.comp t k es cs elt own)) := by
  intro M H σ nv Q st hd
  have eo : (own.map fun i => (C.N.getD i "", i)).map (·.2) = own := by
    rw [List.map_map]
    exact List.map_id' own
  refine tE.by (t := tLc (tI C W tg it) (tG (C.blk scope) W0 tg) (tC1 (C.blk scope) W0 ifs) (tE (C.blk scope) W0 ex) own) (fun X hX => ?_) (comp_reads ht hts hi hc he st hd)
  have := pe_lc (X := X) (pos := pos) (own := own.map fun i => (C.N.getD i "", i)) hX.calm hX.nd (PIo hX tg it) (blkOk_by (by rw [hX.N, hX.sc]; exact ok)) (fun s H D cl fp => PGo (hX.blk scope s H D cl fp) tg) (fun s H D cl fp => PTso (hX.blk scope s H D cl fp) ifs) (fun s H D cl fp => PEo (hX.blk scope s H D cl fp) ex)
    (fun x => by cases it <;> first | rfl | (cases ps))
  rw [eo] at this
  exact this
end
end G
namespace G
open PySem PySem.Spec PyProof.Rows L2
variable [Tb]
section
variable {C : Cfg} {W : WX} {M H M1 H1 : Hp} {σ σ' : L2.St} {nv nv1 : Nv} {Φ : Fn} {shs : Nat → Nat → Shape}
/-! ### calls of own defs -/
theorem slots_get : ∀ {os : List (D ⊕ Nat)} {ss : List Sl} {p : Nat} {s : Sl}, slotsOf nv os = some ss → ss[p]? = some s →
    (∃ d, os[p]? = some (.inl d) ∧ s = .val d) ∨ ∃ i, os[p]? = some (.inr i) ∧ ((nv[i]? = some (some s) ∧ ∀ f ds, s ≠ .lv f ds) ∨ ∃ f ds, nv[i]? = some (some (.lv (.l f) ds)) ∧ s = .lv (.l false) ds)
  | [], ss, p, s, h, hs => by
    simp only [slotsOf, Option.some.injEq] at h
    subst h
    simp at hs
  | .inl d :: os, ss, p, s, h, hs => by
    simp only [slotsOf] at h
    cases q : slotsOf nv os with
    | none => rw [q] at h; cases h
    | some ss' =>
      rw [q] at h
      cases h
      cases p with
      | zero => cases hs; exact .inl ⟨d, rfl, rfl⟩
      | succ p =>
        have hs : ss'[p]? = some s := by simpa using hs
        simpa using slots_get q hs
  | .inr i :: os, ss, p, s, h, hs => by
    simp only [slotsOf] at h
    split at h
    · rename_i d e
      cases q : slotsOf nv os with
      | none => rw [q] at h; cases h
      | some ss' =>
        rw [q] at h
        cases h
        cases p with
        | zero => cases hs; exact .inr ⟨i, rfl, .inl ⟨e, fun _ _ z => nomatch z⟩⟩
        | succ p =>
        have hs : ss'[p]? = some s := by simpa using hs
        simpa using slots_get q hs
    · rename_i f ds e
      cases q : slotsOf nv os with
      | none => rw [q] at h; cases h
      | some ss' =>
        rw [q] at h
        cases h
        cases p with
        | zero => cases hs; exact .inr ⟨i, rfl, .inr ⟨f, ds, e, rfl⟩⟩
        | succ p =>
        have hs : ss'[p]? = some s := by simpa using hs
        simpa using slots_get q hs
    · rename_i m ds e
      cases q : slotsOf nv os with
      | none => rw [q] at h; cases h
      | some ss' =>
        rw [q] at h
        cases h
        cases p with
        | zero => cases hs; exact .inr ⟨i, rfl, .inl ⟨e, fun _ _ z => nomatch z⟩⟩
        | succ p =>
        have hs : ss'[p]? = some s := by simpa using hs
        simpa using slots_get q hs
    · cases h
theorem slots_len : ∀ {os : List (D ⊕ Nat)} {ss : List Sl}, slotsOf nv os = some ss → ss.length = os.length
  | [], ss, h => by
    simp only [slotsOf, Option.some.injEq] at h
    subst h
    rfl
  | .inl d :: os, ss, h => by
    simp only [slotsOf] at h
    cases q : slotsOf nv os with
    | none => rw [q] at h; cases h
    | some ss' => rw [q] at h; cases h; simp [slots_len q]
  | .inr i :: os, ss, h => by
    simp only [slotsOf] at h
    split at h
    · cases q : slotsOf nv os with
      | none => rw [q] at h; cases h
      | some ss' => rw [q] at h; cases h; simp [slots_len q]
    · cases q : slotsOf nv os with
      | none => rw [q] at h; cases h
      | some ss' => rw [q] at h; cases h; simp [slots_len q]
    · cases q : slotsOf nv os with
      | none => rw [q] at h; cases h
      | some ss' => rw [q] at h; cases h; simp [slots_len q]
    · cases h
theorem brws_mem {i : Nat} : ∀ {os : List (D ⊕ Nat)}, i ∈ brws os ↔ ∃ p : Nat, os[p]? = some (Sum.inr i : D ⊕ Nat)
  | [] => by simp [brws]
  | .inl d :: os => by
    simp only [brws]
    rw [brws_mem]
    constructor
    · rintro ⟨p, h⟩; exact ⟨p + 1, by simpa using h⟩
    · rintro ⟨p, h⟩
      cases p with
      | zero => cases h
      | succ p => exact ⟨p, by simpa using h⟩
  | .inr j :: os => by
    simp only [brws, List.mem_cons]
    rw [brws_mem]
    constructor
    · rintro (rfl | ⟨p, h⟩)
      · exact ⟨0, rfl⟩
      · exact ⟨p + 1, by simpa using h⟩
    · rintro ⟨p, h⟩
      cases p with
      | zero => cases h; exact .inl rfl
      | succ p => exact .inr ⟨p, by simpa using h⟩
theorem brws_inj {i : Nat} : ∀ {os : List (D ⊕ Nat)} {p q : Nat}, (brws os).Nodup → os[p]? = some (.inr i) → os[q]? = some (.inr i) → p = q
  | [], _, _, _, h, _ => by simp at h
  | .inl d :: os, p, q, nd, h1, h2 => by
    cases p with
    | zero => cases h1
    | succ p =>
      cases q with
      | zero => cases h2
      | succ q => exact congrArg Nat.succ (brws_inj (os := os) nd (by simpa using h1) (by simpa using h2))
  | .inr j :: os, p, q, nd, h1, h2 => by
    simp only [brws, List.nodup_cons] at nd
    cases p with
    | zero =>
      cases h1
      cases q with
      | zero => rfl
      | succ q => exact absurd (brws_mem.mpr ⟨q, by simpa using h2⟩) nd.1
    | succ p =>
      cases q with
      | zero => cases h2; exact absurd (brws_mem.mpr ⟨p, by simpa using h1⟩) nd.1
      | succ q => exact congrArg Nat.succ (brws_inj (os := os) nd.2 (by simpa using h1) (by simpa using h2))
theorem OpdsR.get {K : PySem.W.Frag} : ∀ {os : List (D ⊕ Nat)} {vs : List V} {p : Nat} {o : D ⊕ Nat}, OpdsR K M σ os vs → os[p]? = some o → ∃ v, vs[p]? = some v ∧ OpdR K M σ o v
  | [], _, _, _, _, h => by simp at h
  | o :: os, vs, p, o', hv, h => by
    obtain ⟨v, vs', rfl, h1, h2⟩ := hv
    cases p with
    | zero => cases h; exact ⟨v, rfl, h1⟩
    | succ p => simpa using OpdsR.get h2 (by simpa using h)
theorem map_some_get {α : Type} {l : List α} {i : Nat} {a : α} : (l.map some)[i]? = some (some a) ↔ l[i]? = some a := by
  rw [List.getElem?_map]
  cases l[i]? <;> simp
theorem StR.args {K : PySem.W.Frag} {os : List (D ⊕ Nat)} {vs : List V} {ss : List Sl} (st : StR K M H σ nv) (h : OpdsR K M σ os vs) (e : slotsOf nv os = some ss) (nd : (brws os).Nodup) :
    StR K M H (vs.map some) (ss.map some) ∧ (∀ a, Own (vs.map some) (ss.map some) a → (∃ i ∈ brws os, ∃ f ds, nv[i]? = some (some (.lv f ds)) ∧ σ[i]? = some (some (.ref a))) ∨ TbA a) := by
  have lv : ∀ {p : Nat} {f : Kd} {ds : List D}, ss[p]? = some (.lv f ds) → ∃ i g, os[p]? = some (.inr i) ∧ nv[i]? = some (some (.lv (.l g) ds)) ∧ ∃ v, vs[p]? = some v ∧ σ[i]? = some (some v) := fun {p f ds} hs => by
    rcases slots_get e hs with ⟨d, h1, h2⟩ | ⟨i, h1, ⟨h2, h3⟩ | ⟨g, ds', h2, h3⟩⟩
    · cases h2
    · exact absurd rfl (h3 _ _)
    · cases h3
      obtain ⟨v, h4, h5⟩ := h.get h1
      exact ⟨i, g, h1, h2, v, h4, h5⟩
  refine ⟨⟨st.ext, by rw [List.length_map, List.length_map, slots_len e, h.length], fun p s hs => ?_, fun p q f g xs ys v h1 h2 h3 h4 => ?_, st.tb⟩, fun a ha => ?_⟩
  · rw [map_some_get] at hs
    rcases slots_get e hs with ⟨d, h1, rfl⟩ | ⟨i, h1, ⟨h2, _⟩ | ⟨f, ds, h2, rfl⟩⟩
    · obtain ⟨v, h4, h5⟩ := h.get h1
      exact ⟨v, map_some_get.mpr h4, h5⟩
    · obtain ⟨v, h4, h5⟩ := h.get h1
      obtain ⟨v', e1, e2⟩ := st.get i _ h2
      have h5 : σ[i]? = some (some v) := h5
      rw [h5] at e1
      cases e1
      exact ⟨v, map_some_get.mpr h4, e2⟩
    · obtain ⟨v, h4, h5⟩ := h.get h1
      obtain ⟨v', e1, e2⟩ := st.get i _ h2
      have h5 : σ[i]? = some (some v) := h5
      rw [h5] at e1
      cases e1
      exact ⟨v, map_some_get.mpr h4, e2⟩
  · rw [map_some_get] at h1 h2 h3 h4
    obtain ⟨i, a1, o1, n1, v1, w1, s1⟩ := lv h1
    obtain ⟨j, a2, o2, n2, v2, w2, s2⟩ := lv h2
    rw [h3] at w1
    rw [h4] at w2
    cases w1
    cases w2
    have : i = j := st.apart i j (.l a1) (.l a2) xs ys v n1 n2 s1 s2
    subst this
    exact brws_inj nd o1 o2
  · rcases ha with ⟨p, f, ds, h1, h2⟩ | ha
    case inr => exact .inr ha
    rw [map_some_get] at h1 h2
    obtain ⟨i, g, o1, n1, v1, w1, s1⟩ := lv h1
    rw [h2] at w1
    cases w1
    exact .inl ⟨i, brws_mem.mpr ⟨p, o1⟩, .l g, ds, n1, s1⟩
theorem put_get : ∀ {os : List (D ⊕ Nat)} {outs : List Sl} {nv2 : Nv}, putBack nv os outs = some nv2 → nv2.length = nv.length ∧ ∀ i s, nv2[i]? = some (some s) →
    (i ∉ brws os ∧ nv[i]? = some (some s)) ∨ (∃ (p : Nat) (f g : Bool) (ds ds0 : List D), os[p]? = some (Sum.inr i : D ⊕ Nat) ∧ nv[i]? = some (some (.lv (.l f) ds0)) ∧ outs[p]? = some (.lv (.l g) ds) ∧ s = .lv (.l f) ds) ∨ (nv[i]? = some (some s) ∧ ∀ f ds, s ≠ .lv f ds)
  | [], outs, nv2, h => by
    simp only [putBack, Option.some.injEq] at h
    subst h
    exact ⟨rfl, fun i s hs => .inl ⟨by simp [brws], hs⟩⟩
  | .inl d :: os, [], nv2, h => by cases h
  | .inr d :: os, [], nv2, h => by cases h
  | .inl d :: os, o :: outs, nv2, h => by
    simp only [putBack] at h
    obtain ⟨l, k⟩ := put_get h
    refine ⟨l, fun i s hs => ?_⟩
    rcases k i s hs with h1 | ⟨p, f, g, ds, ds0, h1, h2, h3, h4⟩ | h1
    · exact .inl h1
    · exact .inr (.inl ⟨p + 1, f, g, ds, ds0, by simpa using h1, h2, by simpa using h3, h4⟩)
    · exact .inr (.inr h1)
  | .inr j :: os, o :: outs, nv2, h => by
    simp only [putBack] at h
    split at h
    · rename_i nv1 f ds0 g ds e1 e2
      cases h
      obtain ⟨l, k⟩ := put_get e1
      refine ⟨by rw [List.length_set]; exact l, fun i s hs => ?_⟩
      by_cases e : j = i
      · subst e
        rw [List.getElem?_set] at hs
        split at hs
        · split at hs
          · cases hs
            exact .inr (.inl ⟨0, f, g, ds, ds0, rfl, e2, rfl, rfl⟩)
          · cases hs
        · contradiction
      · rw [List.getElem?_set_ne e] at hs
        rcases k i s hs with ⟨h1, h2⟩ | ⟨p, f, g, ds, ds0, h1, h2, h3, h4⟩ | h1
        · exact .inl ⟨by simp only [brws, List.mem_cons, not_or]; exact ⟨fun z => e z.symm, h1⟩, h2⟩
        · exact .inr (.inl ⟨p + 1, f, g, ds, ds0, by simpa using h1, h2, by simpa using h3, h4⟩)
        · exact .inr (.inr h1)
    · rename_i nv1 d e1 e2
      cases h
      obtain ⟨l, k⟩ := put_get e1
      refine ⟨l, fun i s hs => ?_⟩
      rcases k i s hs with ⟨h1, h2⟩ | ⟨p, f, g, ds, ds0, h1, h2, h3, h4⟩ | h1
      · by_cases e : j = i
        · subst e
          rw [e2] at h2
          cases h2
          exact .inr (.inr ⟨e2, fun _ _ z => nomatch z⟩)
        · exact .inl ⟨by simp only [brws, List.mem_cons, not_or]; exact ⟨fun z => e z.symm, h1⟩, h2⟩
      · exact .inr (.inl ⟨p + 1, f, g, ds, ds0, by simpa using h1, h2, by simpa using h3, h4⟩)
      · exact .inr (.inr h1)
    · rename_i nv1 m ds1 e1 e2
      cases h
      obtain ⟨l, k⟩ := put_get e1
      refine ⟨l, fun i s hs => ?_⟩
      rcases k i s hs with ⟨h1, h2⟩ | ⟨p, f, g, ds, ds0, h1, h2, h3, h4⟩ | h1
      · by_cases e : j = i
        · subst e
          rw [e2] at h2
          cases h2
          exact .inr (.inr ⟨e2, fun _ _ z => nomatch z⟩)
        · exact .inl ⟨by simp only [brws, List.mem_cons, not_or]; exact ⟨fun z => e z.symm, h1⟩, h2⟩
      · exact .inr (.inl ⟨p + 1, f, g, ds, ds0, by simpa using h1, h2, by simpa using h3, h4⟩)
      · exact .inr (.inr h1)
    · cases h
end
end G
namespace G
open PySem PySem.Spec PyProof.Rows L2
variable [Tb]
section
variable {C : Cfg} {W : WX} {M H M1 H1 : Hp} {σ σ' : L2.St} {nv nv1 : Nv} {Φ : Fn} {shs : Nat → Nat → Shape}
theorem StR.called {K : PySem.W.Frag} {os : List (D ⊕ Nat)} {vs : List V} {ss outs : List Sl} {nv2 : Nv} {M' H' : Hp} {Z : Addr → Prop} (st : StR K M H σ nv) (h : OpdsR K M σ os vs) (e : slotsOf nv os = some ss) (nd : (brws os).Nodup)
    (stc : StR K M' H' (vs.map some) (outs.map some)) (sc : Step M H (Own (vs.map some) (ss.map some)) M' H' (fun a => Own (vs.map some) (outs.map some) a ∨ Z a)) (pb : putBack nv os outs = some nv2) :
    StR K M' H' σ nv2 ∧ Step M H (Own σ nv) M' H' (fun a => Own σ nv2 a ∨ Z a) ∧ (∀ a, Z a → ¬ Own (vs.map some) (outs.map some) a → ¬ Own σ nv2 a) := by
  obtain ⟨_, oa⟩ := st.args h e nd
  obtain ⟨pl, pg⟩ := put_get pb
  have oa' : ∀ a, Own (vs.map some) (ss.map some) a → Own σ nv a := fun a ha => by
    rcases oa a ha with ⟨i, _, f, ds, h1, h2⟩ | h
    · exact .inl ⟨i, f, ds, h1, h2⟩
    · exact .inr h
  -- what is not lent stays
  have far : ∀ i f ds a, i ∉ brws os → nv[i]? = some (some (.lv f ds)) → σ[i]? = some (some (.ref a)) → ¬ Own (vs.map some) (ss.map some) a := fun i f ds a hi h1 h2 z => by
    obtain ⟨v, e1, a', o, rfl, _, e3, e4⟩ := st.get i _ h1
    rw [h2] at e1
    cases e1
    rcases oa a z with ⟨j, hj, g, ys, h3, h4⟩ | z
    case inr => exact st.notTab e3 (fun _ => e4.ntbl) z
    have := st.apart i j f g ds ys _ h1 h3 h2 h4
    exact hi (this ▸ hj)
  have lent : ∀ {p i : Nat} {g : Bool} {ds : List D}, os[p]? = some (.inr i) → outs[p]? = some (.lv (.l g) ds) → ∃ a xs, σ[i]? = some (some (.ref a)) ∧ vs[p]? = some (.ref a) ∧ M' a = none ∧ H' a = some (.lst xs) ∧ Reps K M' ds xs := fun {p i g ds} h1 h2 => by
    obtain ⟨v, h3, h4⟩ := h.get h1
    obtain ⟨w, e1, a, o, rfl, e3, e4, xs, rfl, e5⟩ := stc.get p _ (map_some_get.mpr h2)
    rw [map_some_get, h3] at e1
    cases e1
    exact ⟨a, xs, h4, h3, e3, e4, e5⟩
  have sub : ∀ a, Own σ nv2 a → Own σ nv a := fun a ha => by
    rcases ha with ⟨i, f, ds, h1, h2⟩ | ha
    case inr => exact .inr ha
    rcases pg i _ h1 with ⟨_, h3⟩ | ⟨p, f', g, ds', ds0, h3, h4, h5, h6⟩ | ⟨_, h3⟩
    · exact .inl ⟨i, f, ds, h3, h2⟩
    · exact .inl ⟨i, .l f', ds0, h4, h2⟩
    · exact absurd rfl (h3 _ _)
  refine ⟨⟨stc.ext, pl.trans st.len, fun i s hs => ?_, fun i j f g xs ys v h1 h2 h3 h4 => ?_, stc.tb⟩, ⟨sc.mm, fun a o h1 h2 => sc.keep a o h1 fun z => h2 (oa' a z), fun a ha => ?_, sc.dom, fun a o h1 => (sc.mnew a o h1).imp id (Or.imp (oa' a) id)⟩, fun a hz hn ho => ?_⟩
  · rcases pg i s hs with ⟨hi, h1⟩ | ⟨p, f, g, ds, ds0, h1, h2, h3, rfl⟩ | ⟨h1, h2⟩
    · obtain ⟨v, e1, e2⟩ := st.get i s h1
      refine ⟨v, e1, ?_⟩
      cases s with
      | val d => exact Rep.mono sc.mm e2
      | fn m ds => exact FnR.mono sc.mm e2
      | lv f ds =>
        obtain ⟨a, xs, rfl, e3, e4, e5⟩ := e2
        have no := far i f ds a hi h1 e1
        obtain ⟨k1, k2, _⟩ := kept_at (s := sc) e4 e3 no
        exact ⟨a, xs, rfl, k2, k1, LoR.mono sc.mm e5⟩
    · obtain ⟨a, xs, e1, _, e3, e4, e5⟩ := lent h1 h3
      exact ⟨_, e1, a, _, rfl, e3, e4, xs, rfl, e5⟩
    · obtain ⟨v, e1, e2⟩ := st.get i _ h1
      refine ⟨v, e1, ?_⟩
      cases s with
      | val d => exact Rep.mono sc.mm e2
      | fn m ds => exact FnR.mono sc.mm e2
      | lv f ds => exact absurd rfl (h2 _ _)
  · rcases pg i _ h1 with ⟨hi, h1⟩ | ⟨p, f', g', ds, ds0, h1, h1', h1'', h5⟩ | ⟨_, h1⟩
    · rcases pg j _ h2 with ⟨hj, h2⟩ | ⟨q, f2, g2, es, es0, h2, h2', h2'', h6⟩ | ⟨_, h2⟩
      · exact st.apart i j f g xs ys v h1 h2 h3 h4
      · exact st.apart i j f (.l f2) xs es0 v h1 h2' h3 h4
      · exact absurd rfl (h2 _ _)
    · rcases pg j _ h2 with ⟨hj, h2⟩ | ⟨q, f2, g2, es, es0, h2, h2', h2'', h6⟩ | ⟨_, h2⟩
      · exact st.apart i j (.l f') g ds0 ys v h1' h2 h3 h4
      · exact st.apart i j (.l f') (.l f2) ds0 es0 v h1' h2' h3 h4
      · exact absurd rfl (h2 _ _)
    · exact absurd rfl (h1 _ _)
  · rcases ha with ha | ha
    · exact .inl (sub a ha)
    · exact (sc.own a (.inr ha)).imp (oa' a) id
  · rcases ho with ⟨i, f, ds, h1, h2⟩ | ho
    case inr => exact hn (.inr ho)
    rcases pg i _ h1 with ⟨hi, h3⟩ | ⟨p, f', g, ds', ds0, h3, h4, h5, h6⟩ | ⟨_, h3⟩
    · rcases sc.own a (.inr hz) with z | z
      · exact far i f ds a hi h3 h2 z
      · obtain ⟨_, xs, h7⟩ := st.own_at (.inl ⟨i, f, ds, h3, h2⟩)
        rw [z] at h7; cases h7
    · obtain ⟨b, xs, e1, e2, _⟩ := lent h3 h5
      rw [h2] at e1
      cases e1
      exact hn (.inl ⟨p, .l g, ds', map_some_get.mpr h5, map_some_get.mpr e2⟩)
    · exact absurd rfl (h3 _ _)
def crRs : Cr → Rs R
  | .ok r outs => .ok r (outs.map some)
  | .exc c as outs => .exc c as (outs.map some)
  | .stuck => .stuck
/-- what the i-th def promises: what the reckoning of it says -/
def spOf (C : Cfg) (Φ : Fn) (i n : Nat) : Sp := fun vs H Q E => vs.length = n ∧ ∃ M ss, StR C.K M H (vs.map some) (ss.map some) ∧ DoneE C (fun cls d _ H => E cls d H) M H (vs.map some) (ss.map some) (crRs (Φ i ss)) Q
structure FnI where
  name : Str
  f : Addr
  fd : FuncData
  ps : List Str
def ShOk (K : PySem.W.Frag) (fd : FuncData) (ps ks : List Str) (np : Nat) (sh : Shape) : Prop := ∃ arrU : List Value → List Value → List Value,
  (∀ (s : Shared) (us ws : List Value), K.In s.heap → us.length = np → ws.length = ks.length → BindsTo s fd ⟨us, ks.zip ws⟩ (ps.zip (arrU us ws))) ∧
  (∀ (M : Hp) (σ : L2.St) (os os' : List (D ⊕ Nat)) (vs zs : List V) (us ws : List Value), us.length = np → ws.length = ks.length → Vals vs us → Vals zs ws → OpdsR K M σ os (vs ++ zs) → arrO sh os = some os' →
    ∃ vs', Vals vs' (arrU us ws) ∧ OpdsR K M σ os' vs' ∧ vs'.length = ps.length)
/-- how a written call comes to its parameters: how many are written by place, the keywords, the places -/
abbrev ShT := Nat → Nat → Option (Nat × List Str × Shape)
def shsOf (T : ShT) : Nat → Nat → Shape := fun i j => match T i j with
  | some (_, _, sh) => sh
  | none => [.inl 1000000]
structure FtOk (C : Cfg) (Φ : Fn) (ft : Nat → Option FnI) (T : ShT) : Prop where
  at_ : ∀ i fi, ft i = some fi → C.mg fi.name = some (.ref fi.f) ∧ PySem.W.keepIn C.K (.ref fi.f) = true ∧ FnOk C.P C.w C.K C.mg C.base (L2.CX C.P C.w) C.k fi.f fi.fd fi.ps (spOf C Φ i fi.ps.length)
  sh : ∀ i fi j np ks sh, ft i = some fi → T i j = some (np, ks, sh) → ShOk C.K fi.fd fi.ps ks np sh
theorem run_call {X : Cx} {f : Addr} {fd : FuncData} {ps : List Str} {sp : Sp} (hX : AtE C W X) (F : FnOk C.P C.w C.K C.mg C.base (L2.CX C.P C.w) C.k f fd ps sp) {pins : List (Addr × Obj)} {s : Shared} {Q : VK} {us : List Value} {kw : List (Str × Value)} {bu : List Value} {vs : List V}
    (I : Inv X pins σ H s) (b : BindsTo s fd ⟨us, kw⟩ (ps.zip bu)) (r : Vals vs bu) (h : sp vs H Q fun cls d H' => W cls d σ H') : wpAny (model X.prog X.w) X.A (call (.ref f) us kw) (EP X pins σ Q) X.xe s := by
  have F' : FnOk X.prog X.w X.K X.mg X.base (L2.CX X.prog X.w) C.k f fd ps sp := by
    rw [hX.prog, hX.w, hX.K, hX.mg, hX.base]; exact F
  refine wpAny_call (codeAny_mono (F'.run X.A X.stack s H ⟨us, kw⟩ bu vs Q _ (hX.room.mono (Nat.le_succ _)) I.env0 b r h) fun r s' hq => ?_)
  cases r with
  | error e => exact hX.tk _ _ (XE.of_call I (fun cls d H' w => w) hq)
  | ok fl =>
    cases fl with
    | ret u => exact I.after hq
    | next => exact False.elim hq
    | brk => exact False.elim hq
    | cont => exact False.elim hq
/-- what a call asks -/
theorem callOn_sp {Q : VK} {sh : Shape} {os : List (D ⊕ Nat)} {vs : List V} {i n : Nat} (st : StR C.K M H σ nv) (hd : DoneE C W M H σ nv (callOn Φ i sh os nv) Q) :
    ∃ os', arrO sh os = some os' ∧ ∀ vs', OpdsR C.K M σ os' vs' → vs'.length = n → spOf C Φ i n vs' H Q fun cls d H' => W cls d σ H' := by
  unfold callOn at hd
  cases e1 : arrO sh os with
  | none => rw [e1] at hd; exact hd.elim
  | some os' =>
    rw [e1] at hd
    simp only at hd
    refine ⟨os', rfl, fun vs' hv hl => ⟨hl, ?_⟩⟩
    cases e2 : slotsOf nv os' with
    | none => rw [e2] at hd; exact hd.elim
    | some ss =>
      rw [e2] at hd
      simp only at hd
      by_cases nd : (brws os').Nodup
      · rw [if_pos nd] at hd
        obtain ⟨sta, _⟩ := st.args hv e2 nd
        refine ⟨M, ss, sta, ?_⟩
        cases e3 : Φ i ss with
        | stuck => rw [e3] at hd; exact hd.elim
        | ok r outs =>
          rw [e3] at hd
          simp only at hd
          cases e4 : putBack nv os' outs with
          | none => rw [e4] at hd; exact hd.elim
          | some nv2 =>
            rw [e4] at hd
            intro v M' H' s' st' rr
            obtain ⟨w1, w2, w3⟩ := st.called hv e2 nd st' s' e4
            refine hd v M' H' w2 w1 ?_
            cases r with
            | val d => exact rr
            | own ds =>
              obtain ⟨a, xs, rfl, h1, h2, h3, h4⟩ := rr
              exact ⟨a, xs, rfl, h1, h2, w3 a rfl h3, h4⟩
        | exc c as outs =>
          rw [e3] at hd
          simp only at hd
          cases e4 : putBack nv os' outs with
          | none => rw [e4] at hd; exact hd.elim
          | some nv2 =>
            rw [e4] at hd
            intro cls d M' H' s' st' ex
            obtain ⟨w1, w2, _⟩ := st.called (Z := fun _ => False) hv e2 nd st' (s'.less fun a h => h.elim id False.elim) e4
            exact hd cls d M' H' (w2.less fun a h => .inl h) w1 ex
      · rw [if_neg nd] at hd; exact hd.elim
theorem OpdsR.append {K : PySem.W.Frag} : ∀ {os os2 : List (D ⊕ Nat)} {vs vs2 : List V}, OpdsR K M σ os vs → OpdsR K M σ os2 vs2 → OpdsR K M σ (os ++ os2) (vs ++ vs2)
  | [], _, _, _, h, h2 => by
    have h : _ = [] := h
    subst h
    exact h2
  | o :: os, os2, vs, vs2, h, h2 => by
    obtain ⟨v, vs', rfl, e2, e3⟩ := h
    exact ⟨v, vs' ++ vs2, rfl, e2, OpdsR.append e3 h2⟩
/-- f(e, ..) -/
theorem snd_call {ft : Nat → Option FnI} {T : ShT} (F : FtOk C Φ ft T) {i j : Nat} {fi : FnI} {sh : Shape} {x : Expr} {xs : List Expr} {es : List E} {p pos : Pos} (hf : ft i = some fi) (hT : T i j = some ((x :: xs).length, [], sh)) (hg : isGl C.sc fi.name = true)
    (hdb : (fi.name == ("__debug__" : Str)) = false) (ns : noStars (x :: xs) = true) (hel : es.length = (x :: xs).length) (h : SndA C W (x :: xs) (evOs Φ (shsOf T) es)) : SndE C W (.Call (.Name fi.name p) (x :: xs) [] pos) (evE Φ (shsOf T) (.call i j es)) := by
  intro M H σ nv Q st hd
  refine ⟨fun X hX pins s I => ?_⟩
  obtain ⟨hm, hk, FO⟩ := F.at_ i fi hf
  obtain ⟨arrU, hB, hR⟩ := F.sh i fi j _ _ _ hf hT
  obtain ⟨n1, n2⟩ := noStars_cons ns
  refine wpAny_Call_Name_kw (ld_glob I (gl_of hX hg) (by rw [hX.mg]; exact hm) ?_ hdb)
  refine PySem.W.callWith_K (h₀ := X.base) I.ok.mod.kin (by rw [hX.K]; exact hk) ?_ (star_cons n1 _ _) (plain_back n2)
  have hs : shsOf T i j = sh := by unfold shsOf; rw [hT]
  rw [evE, hs] at hd
  have go : tA C W (x :: xs) σ H fun vs H1 => vs.length = (x :: xs).length ∧ ∃ M1 nv1 os, StR C.K M1 H1 σ nv1 ∧ OpdsR C.K M1 σ os vs ∧ DoneE C W M1 H1 σ nv1 (callOn Φ i sh os nv1) Q := by
    refine h M H σ nv _ st ?_
    cases e1 : evOs Φ (shsOf T) es nv with
    | ok os nv1 =>
      rw [e1] at hd
      intro M1 H1 s1 st1 vs hv
      refine ⟨?_, M1, nv1, os, st1, hv, DoneE.later hd s1⟩
      rw [← hv.length, evOs_len e1, hel]
    | exc c as nv1 => rw [e1] at hd; exact hd
    | stuck => rw [e1] at hd; exact hd.elim
  refine thn (go.un X hX pos pins s I) fun us s1 ⟨vs, H1, I1, r, hl, M1, nv1, os, st1, hv, hd1⟩ => ⟨I1.kIn, ?_⟩
  obtain ⟨os', ea, hsp⟩ := callOn_sp (vs := vs) (n := fi.ps.length) st1 hd1
  have hul : us.length = (x :: xs).length := by rw [← r.length]; exact hl
  have r0 : Vals ([] : List V) ([] : List Value) := .nil
  obtain ⟨vs', r1, r2, r3⟩ := hR M1 σ os os' vs [] us [] hul rfl r r0 (by rw [List.append_nil]; exact hv) ea
  exact run_call hX FO I1 (hB s1 us [] (by rw [← hX.K]; exact I1.kIn) hul rfl) r1 (hsp vs' r2 r3)
structure tKw (C : Cfg) (W : WX) (kws : List Keyword)  (σ : L2.St) (H : Hp) (Q : List V → Hp → Prop) : Prop where
  un : ∀ X, AtE C W X → ∀ (pos : Pos) pins s, Inv X pins σ H s → wpAny (model X.prog X.w) X.A (evalAll ((backToKw pos (keywordEach kws X.env)).map (·.2))) (AP X pins σ Q) X.xe s
end
end G
namespace G
open PySem PySem.Spec PyProof.Rows L2
variable [Tb]
/-- the built-in names that are used -/
def bnames : List Str := ["len", "abs", "int", "tuple", "list", "max", "min", "sum", "any", "all", "isinstance", "bool", "str", "range", "zip", "enumerate", "reversed", "sorted", "set", "dict", "divmod"]
def BltOk (C : Cfg) : Prop := ∀ x ∈ bnames, C.mg x = none
section
variable {C : Cfg} {W : WX} {M H M1 H1 : Hp} {σ σ' : L2.St} {nv nv1 : Nv} {Φ : Fn} {shs : Nat → Nat → Shape}
/-- a part that is an operand -/
abbrev SO (C : Cfg) (W : WX) (Φ : Fn) (shs : Nat → Nat → Shape) (x : Expr) (a : E) : Prop := SndO C W x (fun nv => opd a nv (evE Φ shs a nv))
/-! ### operators -/
section
variable {x y : Expr} {a b : E} {pos : Pos}
theorem s_add (ha : SO C W Φ shs x a) (hb : SO C W Φ shs y b) : SndE C W (.BinOp x .Add y pos) (evE Φ shs (.op2 .add a b)) :=
  snd_op2 (r := fun x y H Q => rI0 (fun i j => .int (i + j)) x y H Q ∨ (∃ i j, x = .str i ∧ y = .str j ∧ i.length + j.length ≤ sizeLine ∧ Q (.str (i ++ j)) H) ∨ GT.rCatN C.K x y H Q ∨ rCat x y H Q) ha hb
    (fun X hX => pe_op (by rw [← hX.K]; exact OpR.or op_add (OpR.or op_add_str (OpR.or GT.op_catN op_cat))) (PEo hX x) (PEo hX y)) ok_add
theorem s_sub (ha : SO C W Φ shs x a) (hb : SO C W Φ shs y b) : SndE C W (.BinOp x .Sub y pos) (evE Φ shs (.op2 .sub a b)) := snd_op2 ha hb (fun X hX => pe_op op_sub (PEo hX x) (PEo hX y)) ok_sub
theorem s_mul (ha : SO C W Φ shs x a) (hb : SO C W Φ shs y b) : SndE C W (.BinOp x .Mult y pos) (evE Φ shs (.op2 .mul a b)) :=
  snd_op2 (r := fun x y H Q => rI CMul (fun i j => .int (i * j)) x y H Q ∨ rRep x y H Q ∨ rMulS x y H Q ∨ GT.rRepN C.K x y H Q) ha hb (fun X hX => pe_op (by rw [← hX.K]; exact OpR.or op_mul (OpR.or op_rep (OpR.or op_mulS GT.op_repN))) (PEo hX x) (PEo hX y)) ok_mul
theorem s_fdiv (ha : SO C W Φ shs x a) (hb : SO C W Φ shs y b) : SndE C W (.BinOp x .FloorDiv y pos) (evE Φ shs (.op2 .fdiv a b)) := snd_op2 ha hb (fun X hX => pe_op op_fdiv (PEo hX x) (PEo hX y)) ok_fdiv
theorem s_mod (ha : SO C W Φ shs x a) (hb : SO C W Φ shs y b) : SndE C W (.BinOp x .Mod y pos) (evE Φ shs (.op2 .mod a b)) := snd_op2 ha hb (fun X hX => pe_op op_mod (PEo hX x) (PEo hX y)) ok_mod
theorem s_pow (ha : SO C W Φ shs x a) (hb : SO C W Φ shs y b) : SndE C W (.BinOp x .Pow y pos) (evE Φ shs (.op2 .pow a b)) := snd_op2 ha hb (fun X hX => pe_op op_pow (PEo hX x) (PEo hX y)) ok_pow
/-! ### comparisons, as values and as tests -/
def cmpR (K : PySem.W.Frag) : P2 → V → V → Hp → VK → Prop
  | .eq => fun x y H Q => rEq x y H Q ∨ rEqP K x y H Q
  | .ne => fun x y H Q => rNe x y H Q ∨ rNeP K x y H Q
  | .lt => fun x y H Q => rI0 (fun i j => .bl (decide (i < j))) x y H Q ∨ rLexO K (fun i j => decide (i < j)) x y H Q
  | .le => fun x y H Q => rI0 (fun i j => .bl (decide (i ≤ j))) x y H Q ∨ rLexO K (fun i j => decide (i ≤ j)) x y H Q
  | .gt => fun x y H Q => rI0 (fun i j => .bl (decide (j < i))) x y H Q ∨ rLexO K (fun i j => decide (j < i)) x y H Q
  | .ge => fun x y H Q => rI0 (fun i j => .bl (decide (j ≤ i))) x y H Q ∨ rLexO K (fun i j => decide (j ≤ i)) x y H Q
  | .leL => rLexL K (fun i j => decide (i ≤ j))
  | _ => fun _ _ _ _ => False
def cmpO : P2 → Option CmpOp
  | .eq => some .Eq | .ne => some .NotEq | .lt => some .Lt | .le => some .LtE | .gt => some .Gt | .ge => some .GtE | .leL => some .LtE | _ => none
theorem cmp_ok {p : P2} {o : CmpOp} (h : cmpO p = some o) {X : Cx} (hX : AtE C W X) : OpR X (compareOp o) (cmpR C.K p) ∧ Ok2 C.K (cmpR C.K p) (p2 p) ∧ o ≠ .In ∧ o ≠ .NotIn := by
  cases p <;> first | (cases h; done) | (cases h)
  · exact ⟨OpR.or op_eq (by rw [← hX.K]; exact op_eqP hX.room.units), ok_eq, by decide, by decide⟩
  · exact ⟨OpR.or op_ne (by rw [← hX.K]; exact op_neP hX.room.units), ok_ne, by decide, by decide⟩
  · exact ⟨OpR.or op_lt (by rw [← hX.K]; exact op_ltO hX.room.units0), ok_cmp _, by decide, by decide⟩
  · exact ⟨OpR.or op_le (by rw [← hX.K]; exact op_leO hX.room.units0), ok_cmp _, by decide, by decide⟩
  · exact ⟨OpR.or op_gt (by rw [← hX.K]; exact op_gtO hX.room.units0), ok_cmp _, by decide, by decide⟩
  · exact ⟨OpR.or op_ge (by rw [← hX.K]; exact op_geO hX.room.units0), ok_cmp _, by decide, by decide⟩
  · exact ⟨by rw [← hX.K]; exact op_leL hX.room.units0, ok_leL, by decide, by decide⟩
theorem s_cmp {p : P2} {o : CmpOp} (h : cmpO p = some o) (ha : SO C W Φ shs x a) (hb : SO C W Φ shs y b) : SndE C W (.Compare x [o] [y] pos) (evE Φ shs (.op2 p a b)) :=
  snd_op2 ha hb (fun X hX => pe_cmpR (cmp_ok h hX).1 (PEo hX x) (PEo hX y) (nomark y (cmp_ok h hX).2.2.1 (cmp_ok h hX).2.2.2)) (by
    have : Nonempty Cx ∨ True := .inr trivial
    cases p <;> first | (cases h; done) | (cases h)
    · exact ok_eq
    · exact ok_ne
    · exact ok_cmp _
    · exact ok_cmp _
    · exact ok_cmp _
    · exact ok_cmp _
    · exact ok_leL)
theorem t_cmp {p : P2} {o : CmpOp} (h : cmpO p = some o) (ha : SO C W Φ shs x a) (hb : SO C W Φ shs y b) : SndT C W (.Compare x [o] [y] pos) (evE Φ shs (.op2 p a b)) :=
  sndT_cmp ha hb (fun X hX => pt_cmpR (cmp_ok h hX).1 (PEo hX x) (PEo hX y) (nomark y (cmp_ok h hX).2.2.1 (cmp_ok h hX).2.2.2)) (by
    cases p <;> first | (cases h; done) | (cases h)
    · exact ok_eq
    · exact ok_ne
    · exact ok_cmp _
    · exact ok_cmp _
    · exact ok_cmp _
    · exact ok_cmp _
    · exact ok_leL)
theorem s_isN {j : Nat} {p' : Pos} (ha : SO C W Φ shs x a) : SndE C W (.Compare x [.Is] [.Constant .none j p'] pos) (evE Φ shs (.op1 .isN a)) :=
  snd_op1 ha (fun X hX => pe_cmp (pc_isN (PEo hX x)) rfl) ok_isN
theorem t_isN {j : Nat} {p' : Pos} (ha : SO C W Φ shs x a) : SndT C W (.Compare x [.Is] [.Constant .none j p'] pos) (evE Φ shs (.op1 .isN a)) :=
  sndT_op1 ha (fun X hX => pt_cmp (pc_isN (PEo hX x)) rfl) ok_isN
/-! ### subscripts -/
def plainIx : Expr → Bool
  | .Slice _ _ _ _ => false
  | _ => true
theorem plainIx_ok {y : Expr} (h : plainIx y = true) : PlainIx y := fun o i => by
  cases y <;> first | rfl | (cases h)
theorem s_ix (hp : plainIx y = true) (ha : SO C W Φ shs x a) (hb : SO C W Φ shs y b) : SndE C W (.Subscript x y pos) (evE Φ shs (.op2 .ix a b)) :=
  snd_op2 (r := rIx C.K) ha hb (fun X hX => by rw [← hX.K]; exact pe_ix ix_seq (PEo hX x) (PEo hX y) (plainIx_ok hp)) ok_ix
/-! ### built-in functions -/
theorem pe_b1 {id : String} {f : Str} {r : List V → Hp → VK → Prop} {p : Pos} (hg : isGl C.sc f = true) (hm : C.mg f = none) (hv : bootBuiltins f = some (.builtin id)) (hn : f ≠ "__name__") (hdb : (f == ("__debug__" : Str)) = false) (ns : noStar x = true)
    (X : Cx) (hX : AtE C W X) (hc : CallR X (.builtin id) r) : PE X (.Call (.Name f p) [x] [] pos) (fun σ H Q => tE C W x σ H fun v H1 => r [v] H1 Q) :=
  pe_callB hc (gl_of hX hg) (by rw [hX.mg]; exact hm) hv (pa_cons (PEo hX x) pa_nil (star_cons ns _ _)) hn hdb (star_cons ns _ _) rfl
theorem pe_b2 {id : String} {f : Str} {r : List V → Hp → VK → Prop} {p : Pos} (hg : isGl C.sc f = true) (hm : C.mg f = none) (hv : bootBuiltins f = some (.builtin id)) (hn : f ≠ "__name__") (hdb : (f == ("__debug__" : Str)) = false) (ns : noStar x = true) (ns2 : noStar y = true)
    (X : Cx) (hX : AtE C W X) (hc : CallR X (.builtin id) r) : PE X (.Call (.Name f p) [x, y] [] pos) (fun σ H Q => tE C W x σ H fun v H1 => tE C W y σ H1 fun u H2 => r [v, u] H2 Q) :=
  pe_callB hc (gl_of hX hg) (by rw [hX.mg]; exact hm) hv (pa_cons (PEo hX x) (pa_cons (PEo hX y) pa_nil (star_cons ns2 _ _)) (star_cons ns _ _)) hn hdb (star_cons ns _ _) (plain_back (by simp [noStars, ns2]))
theorem pe_t1 {T : String} {f : Str} {r : List V → Hp → VK → Prop} {p : Pos} (hg : isGl C.sc f = true) (hm : C.mg f = none) (hv : bootBuiltins f = some (.type T)) (hn : f ≠ "__name__") (hdb : (f == ("__debug__" : Str)) = false) (ns : noStar x = true)
    (X : Cx) (hX : AtE C W X) (hc : CallR X (.type T) r) : PE X (.Call (.Name f p) [x] [] pos) (fun σ H Q => tE C W x σ H fun v H1 => r [v] H1 Q) :=
  pe_callTy hc (gl_of hX hg) (by rw [hX.mg]; exact hm) hv (pa_cons (PEo hX x) pa_nil (star_cons ns _ _)) hn hdb (star_cons ns _ _) rfl
/-- the one-place built-ins by name -/
def b1 : P1 → Option Str
  | .len => some "len" | .abs => some "abs" | .int => some "int" | .tupl => some "tuple" | .list => some "list" | .sum => some "sum" | .any => some "any" | .all => some "all"
  | _ => none
theorem s_b1 {p : P1} {f : Str} {q : Pos} (B : BltOk C) (h : b1 p = some f) (hg : isGl C.sc f = true) (ns : noStar x = true) (ha : SO C W Φ shs x a) : SndE C W (.Call (.Name f q) [x] [] pos) (evE Φ shs (.op1 p a)) := by
  cases p <;> first | (cases h; done) | (cases h)
  · exact snd_op1 (r := fun v H Q => ∃ x n, [v] = [x] ∧ LenV C.K x H n ∧ Q (.int n) H) ha (fun X hX => by
      rw [← hX.K]
      have := pe_b1 (pos := pos) (p := q) hg (B _ (by decide +kernel)) PySem.boot_len (by decide +kernel) (by decide +kernel) ns X hX call_len
      exact this) ok_len
  · exact snd_op1 ha (fun X hX => pe_b1 hg (B _ (by decide +kernel)) boot_abs (by decide +kernel) (by decide +kernel) ns X hX call_abs) ok_abs
  · exact snd_op1 ha (fun X hX => pe_t1 hg (B _ (by decide +kernel)) boot_int (by decide +kernel) (by decide +kernel) ns X hX (CallR.or call_int1 call_int_str)) ok_int
  · exact snd_op1 (r := fun v H Q => ∃ p ys, [v] = [V.ref p] ∧ ((SqL C.K H p ys ∧ GT.MkT H ys Q) ∨ (SqT C.K H p ys ∧ Q (.ref p) H))) ha (fun X hX => by
      rw [← hX.K]
      have := pe_t1 (pos := pos) (p := q) hg (B _ (by decide +kernel)) (T := "tuple") (by decide +kernel) (by decide +kernel) (by decide +kernel) ns X hX GT.call_tuple_ofN
      exact this) ok_tupl
  · exact snd_op1 (r := fun v H Q => (∃ p ys, [v] = [V.ref p] ∧ (SqL C.K H p ys ∨ SqT C.K H p ys) ∧ ∀ l, H l = none → Q (.ref l) (upd H l (.lst ys))) ∨ rListS C.K [v] H Q) ha (fun X hX => by
      rw [← hX.K]
      have := pe_t1 (pos := pos) (p := q) hg (B _ (by decide +kernel)) (T := "list") (by decide +kernel) (by decide +kernel) (by decide +kernel) ns X hX (CallR.or call_list_of (cr_listS hX.calm))
      exact this) ok_list
  · exact snd_op1 (r := fun v H Q => rSum C.K [v] H Q ∨ rSumT C.K [v] H Q) ha (fun X hX => pe_b1 (r := fun xs H Q => rSum C.K xs H Q ∨ rSumT C.K xs H Q) hg (B _ (by decide +kernel)) (id := "sum") (by decide +kernel) (by decide +kernel) (by decide +kernel) ns X hX (by rw [← hX.K]; exact CallR.or (cr_sum hX.calm) (cr_sumT hX.calm))) ok_sum
  · exact snd_op1 (r := fun v H Q => rAny C.K [v] H Q) ha (fun X hX => pe_b1 hg (B _ (by decide +kernel)) (id := "any") (by decide +kernel) (by decide +kernel) (by decide +kernel) ns X hX (by rw [← hX.K]; exact cr_any hX.calm)) ok_any
  · exact snd_op1 (r := fun v H Q => rAll C.K [v] H Q) ha (fun X hX => pe_b1 hg (B _ (by decide +kernel)) (id := "all") (by decide +kernel) (by decide +kernel) (by decide +kernel) ns X hX (by rw [← hX.K]; exact cr_all hX.calm)) ok_all
theorem s_max {q : Pos} (B : BltOk C) (hg : isGl C.sc "max" = true) (ns : noStar x = true) (ns2 : noStar y = true) (ha : SO C W Φ shs x a) (hb : SO C W Φ shs y b) : SndE C W (.Call (.Name "max" q) [x, y] [] pos) (evE Φ shs (.op2 .max a b)) :=
  snd_op2 ha hb (fun X hX => pe_b2 hg (B _ (by decide +kernel)) (id := "max") (by decide +kernel) (by decide +kernel) (by decide +kernel) ns ns2 X hX (call_max2 hX.calm)) ok_max
theorem s_min {q : Pos} (B : BltOk C) (hg : isGl C.sc "min" = true) (ns : noStar x = true) (ns2 : noStar y = true) (ha : SO C W Φ shs x a) (hb : SO C W Φ shs y b) : SndE C W (.Call (.Name "min" q) [x, y] [] pos) (evE Φ shs (.op2 .min a b)) :=
  snd_op2 ha hb (fun X hX => pe_b2 hg (B _ (by decide +kernel)) (id := "min") (by decide +kernel) (by decide +kernel) (by decide +kernel) ns ns2 X hX (call_min2 hX.calm)) ok_min
def isiTy : Nat → Option Str
  | 0 => some "tuple" | 1 => some "bool" | 2 => some "str" | 3 => some "int" | _ => none
theorem s_isi {t : Nat} {f : Str} {q q2 : Pos} (B : BltOk C) (h : isiTy t = some f) (hg : isGl C.sc "isinstance" = true) (hg2 : isGl C.sc f = true) (ns : noStar x = true) (ha : SO C W Φ shs x a) : SndE C W (.Call (.Name "isinstance" q) [x, .Name f q2] [] pos) (evE Φ shs (.op1 (.isi t) a)) := by
  have go : ∀ (f : Str) (T : String), isGl C.sc f = true → C.mg f = none → bootBuiltins f = some (.type T) → f ≠ "__name__" → (f == ("__debug__" : Str)) = false → isiName t = T → t < 4 → SndE C W (.Call (.Name "isinstance" q) [x, .Name f q2] [] pos) (evE Φ shs (.op1 (.isi t) a)) :=
    fun f T hg2 hm hv hn hdb hT ht => snd_op1 (r := fun v H Q => rIsi C.K [v, .ty (isiName t)] H Q) ha (fun X hX => by
      rw [← hX.K]
      refine pe_callB (r := rIsi X.K) call_isi (gl_of hX hg) (by rw [hX.mg]; exact B _ (by decide +kernel)) (by decide +kernel) (pa_cons (PEo hX x) (pa_cons (pe_bltn (v := .ty (isiName t)) (gl_of hX hg2) (by rw [hX.mg]; exact hm) hv (by rw [hT]; rfl) hn hdb) pa_nil rfl) (star_cons ns _ _)) (by decide +kernel) (by decide +kernel) (star_cons ns _ _) rfl) (ok_isi t ht)
  rcases t with _ | _ | _ | _ | t
  · cases h; exact go _ "tuple" hg2 (B _ (by decide +kernel)) (by decide +kernel) (by decide +kernel) (by decide +kernel) rfl (by decide)
  · cases h; exact go _ "bool" hg2 (B _ (by decide +kernel)) (by decide +kernel) (by decide +kernel) (by decide +kernel) rfl (by decide)
  · cases h; exact go _ "str" hg2 (B _ (by decide +kernel)) (by decide +kernel) (by decide +kernel) (by decide +kernel) rfl (by decide)
  · cases h; exact go _ "int" hg2 (B _ (by decide +kernel)) (by decide +kernel) (by decide +kernel) (by decide +kernel) rfl (by decide)
  · cases h
/-! ### in -/
/-! ### methods that read -/
def rCount (K : PySem.W.Frag) : V → List V → Hp → VK → Prop := fun x xs H Q => ∃ (p : Addr) (ys : List V) (y : V), x = .ref p ∧ xs = [y] ∧ SqL K H p ys ∧ flatV y = true ∧ ys.all flatV = true ∧ Q (.int (ys.countP fun z => eqV z y : Nat)) H
theorem countP_eqU {x : V} : ∀ {xs : List V} {us : List Value}, Vals xs us → xs.all flatV = true → us.countP (eqU x) = xs.countP fun y => eqV y x
  | _, _, .nil, _ => rfl
  | y :: xs, u :: us, .cons r t, f => by
    rw [List.all_cons, Bool.and_eq_true] at f
    rw [List.countP_cons, List.countP_cons, eqU_of r f.1, countP_eqU t f.2]
theorem mt_count' {X : Cx} : MtR X "list.count" (rCount X.K) := by
  intro pins s σ H x xs v us Q I rx rxs h
  obtain ⟨p, ys, y, rfl, rfl, hs, fy, fys, q⟩ := h
  cases rx
  obtain ⟨u, rfl, ru⟩ := rxs.one
  obtain ⟨its, rv, ⟨⟨cls, dd, data, sl⟩, n, ho, hc, hdn, hd⟩, hlen⟩ := I.list hs
  simp only at hc hd
  subst hc hd
  refine call_meets PySem.F.slot_list_count ⟨_, ho, rfl⟩ PySem.F.entry_list_count (PySem.F.args_list_count_2 _ _)
    (SeqAt.list_countAt p its.toArray n dd sl u (eqU y)) ⟨ho, fun w hw => mem_eqAt ru fy rv fys w (by simpa using hw), ?_⟩
  refine ⟨.int (ys.countP fun z => eqV z y : Nat), H, I.tok _, ⟨s.toks, ?_⟩, q⟩
  show Value.int ((its.toArray.toList.countP (eqU y) : Nat) : Int) s.toks = _
  rw [show its.toArray.toList = its by simp, countP_eqU rv fys]
end
end
end G
namespace G
open PySem PySem.Spec PyProof.Rows L2
variable [Tb]
structure AtS (C : Cfg) (W : WX) (X : Cx) : Prop where
  e : AtE C W X
  po : PassesOwn (model X.prog X.w) X.A X.env X.xe
  stk : X.stack = X.env :: X.outer
  fr : X.env.frame = some X.env.locals
  ex : X.ex = []
/-- the protected slots are stored to by no name -/
def PrOk (C : Cfg) : Prop := ∀ x i, C.st x = true → C.N[i]? = some x → i ∉ C.pr
section
variable {C : Cfg} {W : WX} {M H M1 H1 : Hp} {σ σ' : L2.St} {nv nv1 : Nv} {Φ : Fn} {shs : Nat → Nat → Shape}
structure tS (C : Cfg) (W : WX) (x : Stmt)  (D : Ends) (σ : L2.St) (H : Hp) : Prop where
  un : ∀ X, AtS C W X → ∀ pins s, Inv X pins σ H s → wpAny (model X.prog X.w) X.A (exec x X.env) (SP X pins D) X.xe s
structure tB (C : Cfg) (W : WX) (xs : List Stmt)  (D : Ends) (σ : L2.St) (H : Hp) : Prop where
  un : ∀ X, AtS C W X → ∀ pins s, Inv X pins σ H s → wpAny (model X.prog X.w) X.A (execs xs X.env) (SP X pins D) X.xe s
theorem PSo {X : Cx} (h : AtS C W X) (x : Stmt) : PS X x (tS C W x) := ⟨fun pins s σ H D I t => t.un X h pins s I⟩
theorem PSso {X : Cx} (h : AtS C W X) (x : List Stmt) : PSs X x (tB C W x) := ⟨fun pins s σ H D I t => t.un X h pins s I⟩
theorem tS.by {x : Stmt} {t : TS} {σ : L2.St} {H : Hp} {D : Ends} (ps : ∀ X, AtS C W X → PS X x t) (h : t D σ H) : tS C W x D σ H := ⟨fun X hX pins s I => (ps X hX).run pins s σ H D I h⟩
theorem tB.by {x : List Stmt} {t : TS} {σ : L2.St} {H : Hp} {D : Ends} (ps : ∀ X, AtS C W X → PSs X x t) (h : t D σ H) : tB C W x D σ H := ⟨fun X hX pins s I => (ps X hX).run pins s σ H D I h⟩
/-- the protected slots stand -/
def Pk (C : Cfg) (σ σ' : L2.St) : Prop := σ'.length = σ.length ∧ ∀ i ∈ C.pr, σ'[i]? = σ[i]?
theorem Pk.refl (C : Cfg) (σ : L2.St) : Pk C σ σ := ⟨rfl, fun _ _ => rfl⟩
theorem Pk.trans {C : Cfg} {a b c : L2.St} (h : Pk C a b) (k : Pk C b c) : Pk C a c := ⟨k.1.trans h.1, fun i hi => (k.2 i hi).trans (h.2 i hi)⟩
def DoneS (C : Cfg) (W : WX) (M H : Hp) (σ : L2.St) (nv : Nv) (res : Rs Fl) (D : Ends) : Prop := match res with
  | .ok (.ret r) nv' => ∀ σ' v M' H', Pk C σ σ' → Step M H (Own σ nv) M' H' (fun a => Own σ' nv' a ∨ ResO r v a) → StR C.K M' H' σ' nv' → RR C.K M' H' (Own σ' nv') r v → D.rt v H'
  | .ok .nx nv' => ∀ σ' M' H', Pk C σ σ' → Step M H (Own σ nv) M' H' (Own σ' nv') → StR C.K M' H' σ' nv' → D.nx σ' H'
  | .ok .brk nv' => ∀ σ' M' H', Pk C σ σ' → Step M H (Own σ nv) M' H' (Own σ' nv') → StR C.K M' H' σ' nv' → D.bk σ' H'
  | .ok .cnt nv' => ∀ σ' M' H', Pk C σ σ' → Step M H (Own σ nv) M' H' (Own σ' nv') → StR C.K M' H' σ' nv' → D.ct σ' H'
  | .exc c as nv' => ∀ σ' cls d M' H', Pk C σ σ' → Step M H (Own σ nv) M' H' (Own σ' nv') → StR C.K M' H' σ' nv' → ExR C c as cls d H' → W cls d σ' H'
  | .stuck => False
theorem DoneS.later {res : Rs Fl} {D : Ends} (h : DoneS C W M H σ nv res D) (s : Step M H (Own σ nv) M1 H1 (Own σ' nv1)) (p : Pk C σ σ') : DoneS C W M1 H1 σ' nv1 res D := by
  cases res with
  | ok f nv' =>
    cases f with
    | ret r => exact fun σ2 v M' H' p' s' => h σ2 v M' H' (p.trans p') (s.trans s')
    | nx => exact fun σ2 M' H' p' s' => h σ2 M' H' (p.trans p') (s.trans s')
    | brk => exact fun σ2 M' H' p' s' => h σ2 M' H' (p.trans p') (s.trans s')
    | cnt => exact fun σ2 M' H' p' s' => h σ2 M' H' (p.trans p') (s.trans s')
  | exc c as nv' => exact fun σ2 cls d M' H' p' s' => h σ2 cls d M' H' (p.trans p') (s.trans s')
  | stuck => exact h
def SndS (C : Cfg) (W : WX) (x : Stmt) (f : Nv → Rs Fl) : Prop := ∀ M H σ nv D, StR C.K M H σ nv → DoneS C W M H σ nv (f nv) D → tS C W x D σ H
def SndB (C : Cfg) (W : WX) (xs : List Stmt) (f : Nv → Rs Fl) : Prop := ∀ M H σ nv D, StR C.K M H σ nv → DoneS C W M H σ nv (f nv) D → tB C W xs D σ H
/-- first an expression (its list may stay own), then what g says -/
theorem SndE.thenS {x : Expr} {f : Nv → Rs R} {g : R → Nv → Rs Fl} {D : Ends} {Q : VK} (h : SndE C W x f) (st : StR C.K M H σ nv) (hd : DoneS C W M H σ nv ((f nv).bind g) D)
    (k : ∀ r nv1 v M1 H1, f nv = .ok r nv1 → StR C.K M1 H1 σ nv1 → RR C.K M1 H1 (Own σ nv1) r v → Step M H (Own σ nv) M1 H1 (fun a => Own σ nv1 a ∨ ResO r v a) → DoneS C W M H σ nv (g r nv1) D → Q v H1) : tE C W x σ H Q := by
  refine h M H σ nv Q st ?_
  cases e : f nv with
  | ok r nv1 =>
    rw [e] at hd
    intro v M' H' s st' rr
    exact k r nv1 v M' H' e st' rr s hd
  | exc c as nv1 => rw [e] at hd; exact fun cls d M' H' s st' ex => hd σ cls d M' H' (Pk.refl C σ) s st' ex
  | stuck => rw [e] at hd; exact hd.elim
/-- .. frozen -/
theorem SndE.thenSF {x : Expr} {f : Nv → Rs R} {g : R → Nv → Rs Fl} {D : Ends} {Q : VK} (h : SndE C W x f) (st : StR C.K M H σ nv) (hd : DoneS C W M H σ nv ((f nv).bind g) D)
    (k : ∀ r nv1 v M1 H1, f nv = .ok r nv1 → StR C.K M1 H1 σ nv1 → Rep C.K M1 r.frz v → DoneS C W M1 H1 σ nv1 (g r nv1) D → Q v H1) : tE C W x σ H Q := by
  refine SndE.thenS h st hd fun r nv1 v M1 H1 e st1 rr s hd1 => ?_
  obtain ⟨M2, st2, rp, s2, _⟩ := freeze st1 rr s
  exact k r nv1 v M2 H1 e st2 rp (hd1.later s2 (Pk.refl C σ))
theorem SndT.thenS {x : Expr} {f : Nv → Rs R} {g' : Bool → Nv → Rs Fl} {D : Ends} {Q : Bool → Hp → Prop} (h : SndT C W x f) (st : StR C.K M H σ nv) (hd : DoneS C W M H σ nv ((tst f nv).bind g') D)
    (k : ∀ b nv1 M1 H1, tst f nv = .ok b nv1 → StR C.K M1 H1 σ nv1 → Step M H (Own σ nv) M1 H1 (Own σ nv1) → DoneS C W M1 H1 σ nv1 (g' b nv1) D → Q b H1) : tT C W x σ H Q := by
  refine h M H σ nv Q st ?_
  cases e : tst f nv with
  | ok b nv1 =>
    rw [e] at hd
    intro M' H' s st'
    exact k b nv1 M' H' e st' s (hd.later s (Pk.refl C σ))
  | exc c as nv1 => rw [e] at hd; exact fun cls d M' H' s st' ex => hd σ cls d M' H' (Pk.refl C σ) s st' ex
  | stuck => rw [e] at hd; exact hd.elim
theorem ife_tst {c : E} {g : Bool → Nv → Rs Fl} (nv : Nv) : ((evE Φ shs c nv).bind fun r nv1 => match r with | .val (.bl true) => g true nv1 | .val (.bl false) => g false nv1 | _ => .stuck) = (tst (evE Φ shs c) nv).bind g := by
  unfold tst
  cases evE Φ shs c nv with
  | ok r nv1 =>
    cases r with
    | val d =>
      cases d with
      | bl k => cases k <;> rfl
      | _ => rfl
    | own ds => rfl
  | exc c as nv1 => rfl
  | stuck => rfl
/-! ### blocks -/
theorem sndB_nil : SndB C W [] (evB Φ shs []) := by
  intro M H σ nv D st hd
  refine tB.by (fun X hX => pss_nil) ?_
  rw [evB] at hd
  exact hd σ M H (Pk.refl C σ) (Step.refl _ _ _) st
theorem sndB_cons {x : Stmt} {xs : List Stmt} {s : S} {ss : List S} (h1 : SndS C W x (evS Φ shs s)) (h2 : SndB C W xs (evB Φ shs ss)) : SndB C W (x :: xs) (evB Φ shs (s :: ss)) := by
  intro M H σ nv D st hd
  refine tB.by (fun X hX => pss_cons (PSo hX x) (PSso hX xs)) ?_
  rw [evB] at hd
  refine h1 M H σ nv _ st ?_
  cases e : evS Φ shs s nv with
  | ok f nv1 =>
    rw [e] at hd
    cases f with
    | nx => exact fun σ' M' H' p' s' st' => h2 M' H' σ' nv1 D st' (hd.later s' p')
    | brk => exact hd
    | cnt => exact hd
    | ret r => exact hd
  | exc c as nv1 => rw [e] at hd; exact hd
  | stuck => rw [e] at hd; exact hd
theorem sndS_brk {pos : Pos} : SndS C W (.Break pos) (evS Φ shs .brk) := by
  intro M H σ nv D st hd
  refine tS.by (fun X hX => ps_break) ?_
  rw [evS] at hd
  exact hd σ M H (Pk.refl C σ) (Step.refl _ _ _) st
theorem sndS_ret {x : Expr} {e : E} {pos : Pos} (h : SndE C W x (evE Φ shs e)) : SndS C W (.Return (some x) pos) (evS Φ shs (.ret e)) := by
  intro M H σ nv D st hd
  refine tS.by (fun X hX => ps_ret (PEo hX.e x)) ?_
  rw [evS] at hd
  exact SndE.thenS h st hd fun r nv1 v M1 H1 e st1 rr s hd1 => hd1 σ v M1 H1 (Pk.refl C σ) s st1 rr
def isComp : Expr → Bool
  | .ListComp _ _ _ _ => true
  | .SetComp _ _ _ _ => true
  | .DictComp _ _ _ _ _ => true
  | _ => false
theorem swaps_no {x : Expr} (h : isComp x = false) (t : Option Expr) (l : Nat) (env : PySem.Env) : swapsWith x t l env = pure false := by
  cases x <;> first | rfl | (cases h)
theorem sndS_expr {x : Expr} {e : E} {pos : Pos} (hc : isComp x = false) (h : SndE C W x (evE Φ shs e)) : SndS C W (.Expr x pos) (evS Φ shs (.expr e)) := by
  intro M H σ nv D st hd
  refine tS.by (fun X hX => ps_expr (PEo hX.e x) (swaps_no hc _ _ _)) ?_
  rw [evS] at hd
  exact SndE.thenSF h st hd fun r nv1 v M1 H1 e st1 rp hd1 => hd1 σ M1 H1 (Pk.refl C σ) (Step.refl _ _ _) st1
theorem sndS_ife {c : Expr} {a b : List Stmt} {e : E} {sa sb : List S} {pos : Pos} (hc : SndT C W c (evE Φ shs e)) (ha : SndB C W a (evB Φ shs sa)) (hb : SndB C W b (evB Φ shs sb)) : SndS C W (.If c a b pos) (evS Φ shs (.ife e sa sb)) := by
  intro M H σ nv D st hd
  refine tS.by (fun X hX => ps_if (PTo hX.e c) (PSso hX a) (PSso hX b)) ?_
  rw [evS] at hd
  have hd : DoneS C W M H σ nv ((tst (evE Φ shs e) nv).bind fun k nv1 => if k = true then evB Φ shs sa nv1 else evB Φ shs sb nv1) D := by
    rw [← ife_tst]
    exact hd
  refine SndT.thenS hc st hd fun k nv1 M1 H1 e1 st1 s1 hd1 => ?_
  cases k with
  | true => rw [if_pos rfl] at hd1 ⊢; exact ha M1 H1 σ nv1 D st1 hd1
  | false => rw [if_neg (by decide)] at hd1 ⊢; exact hb M1 H1 σ nv1 D st1 hd1
/-! ### stores -/
/-- an own thing is stored -/
theorem StR.putF (st : StR C.K M H σ nv) {i : Nat} {f0 : Kd} {ds : List G.D} {a : Addr} {o : HO} {u : Unit} {nv' : Nv} (e : stSlot i (.lv f0 ds) nv = .ok u nv') (e1 : H a = some o) (e2 : M a = none) (e3 : ¬ Own σ nv a) (e4 : LoR C.K M f0 ds o) :
    StR C.K M H (σ.set i (some (.ref a))) nv' ∧ (∀ b, Own (σ.set i (some (.ref a))) nv' b → Own σ nv b ∨ b = a) ∧ nv' = nv.set i (some (.lv f0 ds)) := by
  have e' : nv' = nv.set i (some (.lv f0 ds)) := by
    unfold stSlot at e
    split at e
    · cases e
    · cases e; rfl
    · cases e
  have hi : i < nv.length := by
    unfold stSlot at e
    split at e
    · cases e
    · rename_i q; exact (List.getElem?_eq_some_iff.mp q).1
    · cases e
  subst e'
  have k : ∀ (j : Nat) (s : Sl), (nv.set i (some (.lv f0 ds)))[j]? = some (some s) → (i = j ∧ s = .lv f0 ds) ∨ (i ≠ j ∧ nv[j]? = some (some s)) := fun j s h => by
    by_cases q : i = j
    · subst q
      rw [List.getElem?_set_self hi] at h
      cases h
      exact .inl ⟨rfl, rfl⟩
    · rw [List.getElem?_set_ne q] at h
      exact .inr ⟨q, h⟩
  have hσ : (σ.set i (some (V.ref a)))[i]? = some (some (V.ref a)) := List.getElem?_set_self (by rw [← st.len]; exact hi)
  refine ⟨⟨st.ext, by simp [st.len], fun j s h => ?_, fun j l g g' xs ys w h1 h2 h3 h4 => ?_, st.tb⟩, fun b h => ?_, rfl⟩
  · rcases k j s h with ⟨rfl, rfl⟩ | ⟨q, h⟩
    · exact ⟨_, hσ, a, o, rfl, e2, e1, e4⟩
    · rw [List.getElem?_set_ne q]
      exact st.get j s h
  · have no : ∀ (m : Nat) (f : Kd) (zs : List G.D), i ≠ m → nv[m]? = some (some (.lv f zs)) → σ[m]? ≠ some (some (V.ref a)) := fun m f zs hm h5 h6 => e3 (.inl ⟨m, f, zs, h5, h6⟩)
    rcases k j _ h1 with ⟨rfl, _⟩ | ⟨q1, h1⟩ <;> rcases k l _ h2 with ⟨rfl, _⟩ | ⟨q2, h2⟩
    · rfl
    · rw [hσ] at h3
      cases h3
      rw [List.getElem?_set_ne q2] at h4
      exact (no l g' ys q2 h2 h4).elim
    · rw [hσ] at h4
      cases h4
      rw [List.getElem?_set_ne q1] at h3
      exact (no j g xs q1 h1 h3).elim
    · rw [List.getElem?_set_ne q1] at h3
      rw [List.getElem?_set_ne q2] at h4
      exact st.apart j l g g' xs ys w h1 h2 h3 h4
  · rcases h with ⟨j, f, zs, h1, h2⟩ | h
    case inr => exact .inl (.inr h)
    rcases k j _ h1 with ⟨rfl, _⟩ | ⟨q, h1⟩
    · rw [hσ] at h2
      exact .inr (by cases h2; rfl)
    · rw [List.getElem?_set_ne q] at h2
      exact .inl (.inl ⟨j, f, zs, h1, h2⟩)
/-- a result is stored -/
theorem StR.putR (st : StR C.K M H σ nv) {i : Nat} {r : R} {v : V} {u : Unit} {nv' : Nv} (e : stSlot i r.slot nv = .ok u nv') (rr : RR C.K M H (Own σ nv) r v) :
    StR C.K M H (σ.set i (some v)) nv' ∧ (∀ a, Own (σ.set i (some v)) nv' a → Own σ nv a ∨ ResO r v a) := by
  cases r with
  | val d =>
    obtain ⟨h1, h2, _⟩ := st.putD (u := u) e rr
    exact ⟨h1, fun a h => .inl (h2 a h)⟩
  | own ds =>
    obtain ⟨a, vs, rfl, e1, e2, e3, e4⟩ := rr
    obtain ⟨h1, h2, _⟩ := st.putF (f0 := .l true) (u := u) e e1 e2 e3 ⟨vs, rfl, e4⟩
    exact ⟨h1, fun b h => (h2 b h).imp id fun z => by rw [z]; rfl⟩
theorem pk_set {i : Nat} {v : Option V} (h : i ∉ C.pr) : Pk C σ (σ.set i v) := ⟨List.length_set, fun j hj => by
  rw [List.getElem?_set_ne]
  intro z
  subst z
  exact h hj⟩
/-- name = value -/
theorem stored {i : Nat} {r : R} {v : V} {D : Ends} (pr : i ∉ C.pr) (st : StR C.K M1 H1 σ nv1) (rr : RR C.K M1 H1 (Own σ nv1) r v) (s : Step M H (Own σ nv) M1 H1 (fun a => Own σ nv1 a ∨ ResO r v a))
    (hd : DoneS C W M H σ nv ((stSlot i r.slot nv1).bind fun _ nv2 => .ok .nx nv2) D) : D.nx (σ.set i (some v)) H1 := by
  cases e : stSlot i r.slot nv1 with
  | ok u nv2 =>
    rw [e] at hd
    obtain ⟨h1, h2⟩ := st.putR e rr
    exact hd _ M1 H1 (pk_set pr) (s.less h2) h1
  | exc c as nv2 =>
    unfold stSlot at e
    split at e <;> cases e
  | stuck => rw [e] at hd; exact hd.elim
theorem sndS_asgN {i : Nat} {y : Str} {py pos : Pos} {x : Expr} {e : E} (po : PrOk C) (hi : C.N[i]? = some y) (hs : C.st y = true) (hc : isComp x = false) (h : SndE C W x (evE Φ shs e)) :
    SndS C W (.Assign [.Name y py] x pos) (evS Φ shs (.asg (.nm i) e)) := by
  intro M H σ nv D st hd
  refine tS.by (fun X hX => by
    obtain ⟨h1, h2⟩ := hX.e.fn y hs
    exact ps_set hX.e.nd (by rw [hX.e.N]; exact hi) h1 (PEo hX.e x) (swaps_no hc _ _ _) h2) ?_
  rw [evS] at hd
  exact SndE.thenS h st hd fun r nv1 v M1 H1 e1 st1 rr s hd1 => stored (po y i hs hi) st1 rr s hd1
def isTupE : Expr → Bool
  | .Tuple _ _ _ => true
  | .List _ _ => true
  | _ => false
theorem swapped_no {tg x : Expr} (h : isTupE x = false) (env : PySem.Env) : swappedStores [tg] x env = pure none := by
  unfold swappedStores
  cases tg <;> cases x <;> first | rfl | (cases h)
/-- targets in a tuple -/
theorem sndS_asgT {t : T} {tg x : Expr} {pos : Pos} {e : E} (po : PrOk C) (ht : chkT1 C.N C.st t tg = true) (htp : isTupE tg = true) (nst : noStar tg = true) (hx : isTupE x = false) (hc : isComp x = false) (tn : ∀ i, t ≠ .nm i) (hts : ∀ i ∈ t.slots, i ∉ C.pr) (h : SndE C W x (evE Φ shs e)) :
    SndS C W (.Assign [tg] x pos) (evS Φ shs (.asg t e)) := by
  intro M H σ nv D st hd
  refine tS.by (fun X hX => ps_asg (PEo hX.e x) (PGo hX.e tg) (swaps_no hc _ _ _) (swapped_no hx _) (by rw [asg_cons nst]; rfl)) ?_
  rw [evS] at hd
  refine SndE.thenSF h st hd fun r nv1 v M1 H1 e1 st1 rp hd1 => ?_
  have ea : asgR t r nv1 = asgD t r.frz nv1 := by
    cases t <;> first | rfl | exact absurd rfl (tn _)
  rw [ea] at hd1
  rcases asgD_ok t (d := r.frz) (nv := nv1) rfl with e2 | ⟨nv2, e2, ln⟩
  · rw [e2] at hd1; exact hd1.elim
  · rw [e2] at hd1
    refine sndG t (W := W) ht st1 rp e2 fun σ2 st2 o2 q2 => ?_
    refine hd1 σ2 M1 H1 ⟨?_, fun i hi => (q2 i fun z => hts i z hi).1⟩ ((Step.refl _ _ _).less o2) st2
    rw [← st2.len, ln, st1.len]
end
end G
namespace G
open PySem PySem.Spec PyProof.Rows L2
variable [Tb]
section
variable {C : Cfg} {W : WX} {M H M1 H1 : Hp} {σ σ' : L2.St} {nv nv1 : Nv} {Φ : Fn} {shs : Nat → Nat → Shape}
/-! ### loops -/
theorem sndS_for {t : T} {k : Ik} {es : List E} {ss : List S} {tg it : Expr} {body : List Stmt} {pos : Pos} (po : PrOk C) (ht : chkT1 C.N C.st t tg = true) (hts : ∀ i ∈ t.slots, i ∉ C.pr) (ps : plainSet it = true) (hi : SndI C W tg it (itf Φ shs k es)) (hb : SndB C W body (evB Φ shs ss)) :
    SndS C W (.For tg it body [] pos) (evS Φ shs (.for_ t k es ss)) := by
  intro M H σ nv D st hd
  refine tS.by (fun X hX => ps_for hX.po hX.e.calm (PIo hX.e tg it) (PGo hX.e tg) (PSso hX body) (fun x => by cases it <;> first | rfl | (cases ps))) ?_
  rw [evS] at hd
  refine hi M H σ nv _ st ?_
  unfold itf
  cases e1 : evOs Φ shs es nv with
  | stuck => rw [e1] at hd; exact hd.elim
  | exc c as nv1 => rw [e1] at hd; exact fun cls d M' H' s st' ex => hd σ cls d M' H' (Pk.refl C σ) s st' ex
  | ok os nv1 =>
    rw [e1] at hd
    simp only [Rs.bind] at hd ⊢
    cases e2 : items k os with
    | none => rw [e2] at hd; exact hd.elim
    | some xs =>
      rw [e2] at hd
      simp only at hd ⊢
      intro M1 H1 s1 st1 J jok
      have hd := hd.later s1 (Pk.refl C σ)
      refine ⟨fun i m σ' H' => m = xs.length - i ∧ i ≤ xs.length ∧ ∃ M' nv', Same M1 M' ∧ StR C.K M' H' σ' nv' ∧ DoneS C W M' H' σ' nv' (forLoop (fun d nv => (asgD t d nv).bind fun _ nv2 => evB Φ shs ss nv2) (xs.drop i) nv') D,
        ⟨xs.length, by simp, Nat.zero_le _, M1, nv1, Same.refl _, st1, hd⟩, ?_⟩
      rintro i m σ' H' ⟨rfl, hile, M', nv', mm, st', hdl⟩
      by_cases hlt : i < xs.length
      · right
        have hx : xs[i]? = some xs[i] := List.getElem?_eq_getElem hlt
        obtain ⟨g1, g2⟩ := jok.go M' H' i xs[i] mm st'.ext hx
        refine ⟨g1, fun σ2 H2 => ∃ M' nv', Same M1 M' ∧ StR C.K M' H2 σ2 nv' ∧ DoneS C W M' H2 σ2 nv' (forLoop (fun d nv => (asgD t d nv).bind fun _ nv2 => evB Φ shs ss nv2) (xs.drop (i + 1)) nv') D, fun σ2 H2 h => ⟨xs.length - (i + 1), by omega, rfl, hlt, h⟩, fun x H3 hy => ?_⟩
        obtain ⟨M3, p3, r3⟩ := g2 x H3 hy
        have st3 : StR C.K M3 H3 σ' nv' := st'.grow p3.mm (fun a o h => p3.hh _ _ h) p3.ext (fun a h => by
          cases q : M3 a with
          | none => rfl
          | some o =>
            obtain ⟨h1, ws, h2⟩ := st'.own_at h
            rcases p3.mnew a o q with z | z
            · rw [h1] at z; cases z
            · rw [h2] at z; cases z)
        have s3 : Step M' H' (Own σ' nv') M3 H3 (Own σ' nv') := p3.step _
        have ed : xs.drop i = xs[i] :: xs.drop (i + 1) := (List.drop_eq_getElem_cons hlt)
        rw [ed] at hdl
        have hdl := hdl.later s3 (Pk.refl C σ')
        simp only [forLoop] at hdl
        rcases asgD_ok t (d := xs[i]) (nv := nv') rfl with e3 | ⟨nv2, e3, ln⟩
        · rw [e3] at hdl; exact hdl.elim
        · rw [e3] at hdl
          simp only [Rs.bind] at hdl
          refine sndG t (W := W) ht st3 r3 e3 fun σ4 st4 o4 q4 => ?_
          have hdl := hdl.later (σ' := σ4) (nv1 := nv2) (M1 := M3) (H1 := H3) ((Step.refl _ _ _).less o4) ⟨by rw [← st4.len, ln, st3.len], fun j hj => (q4 j fun z => hts j z hj).1⟩
          refine hb M3 H3 σ4 nv2 _ st4 ?_
          cases e5 : evB Φ shs ss nv2 with
          | stuck => rw [e5] at hdl; exact hdl
          | exc c as nv5 => rw [e5] at hdl; exact hdl
          | ok f nv5 =>
            rw [e5] at hdl
            cases f with
            | ret r => exact hdl
            | nx => exact fun σ5 M5 H5 p5 s5 st5 => ⟨M5, nv5, mm.trans (p3.mm.trans s5.mm), st5, hdl.later s5 p5⟩
            | cnt => exact fun σ5 M5 H5 p5 s5 st5 => ⟨M5, nv5, mm.trans (p3.mm.trans s5.mm), st5, hdl.later s5 p5⟩
            | brk => exact hdl
      · have ei : i = xs.length := by omega
        subst ei
        left
        refine ⟨jok.stop M' H' mm st'.ext, ?_⟩
        rw [List.drop_length] at hdl
        exact hdl σ' M' H' (Pk.refl C σ') (Step.refl _ _ _) st'
/-! ### changing a list -/
theorem StR.changeK (st : StR C.K M H σ nv) {i : Nat} {f f1 : Kd} {xs ys : List G.D} {ws : HO} {a : Addr} (q : nv[i]? = some (some (.lv f xs))) (e : σ[i]? = some (some (.ref a))) (r : LoR C.K M f1 ys ws) :
    StR C.K M (upd H a ws) σ (nv.set i (some (.lv f1 ys))) ∧ Step M H (Own σ nv) M (upd H a ws) (Own σ (nv.set i (some (.lv f1 ys)))) := by
  obtain ⟨v, e1, a', vs, rfl, e2, e3, e4⟩ := st.get i _ q
  rw [e] at e1
  cases e1
  have hi : i < nv.length := (List.getElem?_eq_some_iff.mp q).1
  have k : ∀ (j : Nat) (s : Sl), (nv.set i (some (.lv f1 ys)))[j]? = some (some s) → (i = j ∧ s = .lv f1 ys) ∨ (i ≠ j ∧ nv[j]? = some (some s)) := fun j s h => by
    by_cases z : i = j
    · subst z
      rw [List.getElem?_set_self hi] at h
      cases h
      exact .inl ⟨rfl, rfl⟩
    · rw [List.getElem?_set_ne z] at h
      exact .inr ⟨z, h⟩
  have cext : Same M (upd H a ws) := fun b o h => by
    rw [upd_ne (ne_of_none h e2)]
    exact st.ext _ _ h
  have osub : ∀ b, Own σ (nv.set i (some (.lv f1 ys))) b → Own σ nv b := fun b h => by
    rcases h with ⟨j, g, zs, h1, h2⟩ | h
    case inr => exact .inr h
    rcases k j _ h1 with ⟨rfl, z⟩ | ⟨_, h1⟩
    · exact .inl ⟨i, f, xs, q, h2⟩
    · exact .inl ⟨j, g, zs, h1, h2⟩
  refine ⟨⟨cext, by simp [st.len], fun j s h => ?_, fun j l g g' zs zs' w h1 h2 h3 h4 => ?_, fun p hp => ⟨(st.tb p hp).1, tabS_upd (st.tb p hp).2 e3 (fun _ => e4.ntbl) (fun _ => e4.next)⟩⟩, Same.refl _, fun b o h n => ?_, fun b h => .inl (osub b h), fun b h => ?_, fun b o h => .inl h⟩
  · rcases k j s h with ⟨rfl, rfl⟩ | ⟨z, h⟩
    · exact ⟨_, e, a, ws, rfl, e2, upd_same, r⟩
    · obtain ⟨w, h1, h2⟩ := st.get j s h
      refine ⟨w, h1, ?_⟩
      cases s with
      | val d => exact h2
      | fn m ds => exact h2
      | lv g zs =>
        obtain ⟨b, us, rfl, h3, h4, h5⟩ := h2
        have : b ≠ a := fun y => z (st.apart i j f g xs zs _ q h e (y ▸ h1))
        exact ⟨b, us, rfl, h3, by rw [upd_ne this]; exact h4, h5⟩
  · have get : ∀ (m : Nat) (t : Kd) (us : List G.D), (nv.set i (some (.lv f1 ys)))[m]? = some (some (.lv t us)) → ∃ t' us', nv[m]? = some (some (.lv t' us')) := fun m t us h => by
      rcases k m _ h with ⟨rfl, z⟩ | ⟨_, h⟩
      · cases z; exact ⟨f, xs, q⟩
      · exact ⟨t, us, h⟩
    obtain ⟨_, _, h1⟩ := get _ _ _ h1
    obtain ⟨_, _, h2⟩ := get _ _ _ h2
    exact st.apart j l _ _ _ _ w h1 h2 h3 h4
  · rw [upd_ne (fun z => by subst z; exact n (.inl ⟨i, f, xs, q, e⟩))]
    exact h
  · by_cases z : b = a
    · rw [z, upd_same] at h; cases h
    · rw [upd_ne z] at h; exact h
theorem StR.change (st : StR C.K M H σ nv) {i : Nat} {f : Bool} {xs ys : List G.D} {ws : List V} {a : Addr} (q : nv[i]? = some (some (.lv (.l f) xs))) (e : σ[i]? = some (some (.ref a))) (r : Reps C.K M ys ws) :
    StR C.K M (upd H a (.lst ws)) σ (nv.set i (some (.lv (.l f) ys))) ∧ Step M H (Own σ nv) M (upd H a (.lst ws)) (Own σ (nv.set i (some (.lv (.l f) ys)))) := st.changeK q e ⟨ws, rfl, r⟩
theorem stIx_ok {i : Nat} {k d : G.D} {nv nv' : Nv} {u : Unit} (h : stIx i k d nv = .ok u nv') : ∃ f xs n j, nv[i]? = some (some (.lv (.l f) xs)) ∧ k = .int n ∧ ixN xs.length n = some j ∧ nv' = nv.set i (some (.lv (.l f) (xs.set j d))) := by
  unfold stIx at h
  split at h
  · rename_i f xs n q
    split at h
    · rename_i j e
      cases h
      exact ⟨f, xs, n, j, q, rfl, e, rfl⟩
    · cases h
  · cases h
theorem stIx_r {i : Nat} {k d : G.D} {nv : Nv} : stIx i k d nv = .stuck ∨ ∃ nv', stIx i k d nv = .ok () nv' := by
  unfold stIx
  split
  · split
    · exact .inr ⟨_, rfl⟩
    · exact .inl rfl
  · exact .inl rfl
/-- xs[k] = e -/
theorem sndS_sti {i : Nat} {y z : Expr} {p1 p2 pos : Pos} {n : Str} {ix e : E} (ok : okName C.N C.sc i n = true) (hp : plainIx y = true) (hc : isComp z = false) (hy : SndE C W y (evE Φ shs ix)) (he : SndE C W z (evE Φ shs e)) :
    SndS C W (.Assign [.Subscript (.Name n p1) y p2] z pos) (evS Φ shs (.sti i ix e)) := by
  intro M H σ nv D st hd
  refine tS.by (fun X hX => ps_asg (PEo hX.e z) (pg_sub (pe_name ok X hX.e) (PEo hX.e y) set_list (fun v => by cases y <;> first | rfl | (cases hp))) (swaps_no hc (some (.Subscript (.Name n p1) y p2)) pos.line X.env) (by unfold swappedStores; cases z <;> rfl) (by rfl)) ?_
  rw [evS] at hd
  refine SndE.thenSF he st hd fun r nv1 v M1 H1 e1 st1 rp hd1 => ?_
  split at hd1
  · rename_i f0 xs0 q0
    obtain ⟨w, ew, a, _, rfl, _⟩ := st1.get i _ q0
    refine ⟨_, ew, ?_⟩
    refine SndE.thenS hy st1 hd1 fun k nv2 kv M2 H2 e2 st2' rk' s2' hd2' => ?_
    obtain ⟨M3, st3, rk, s3, _⟩ := freeze st2' rk' s2'
    have hd2 := hd2'.later s3 (Pk.refl C σ)
    rcases stIx_r (i := i) (k := k.frz) (d := r.frz) (nv := nv2) with e3 | ⟨nv3, e3⟩
    · rw [e3] at hd2; exact hd2.elim
    · rw [e3] at hd2
      obtain ⟨f, xs, m, j, q, ek, ej, rfl⟩ := stIx_ok e3
      obtain ⟨w', ew', b, _, rfl, h1, h2, vs, rfl, h3⟩ := st3.get i _ q
      rw [ew] at ew'
      cases ew'
      rw [ek] at rk
      simp only [Rep] at rk
      subst rk
      refine ⟨a, vs, m, j, rfl, rfl, h2, by rw [← h3.length]; exact ej, ?_⟩
      obtain ⟨c1, c2⟩ := st3.change (ys := xs.set j r.frz) q ew (Reps.set j (Rep.mono s3.mm rp) h3)
      exact hd2 σ M3 _ (Pk.refl C σ) c2 c1
  · exact hd1.elim
/-! ### methods that change a list -/
theorem snd_mth {m : Mt} {i : Nat} {es : List E} {whole : Expr} {r : V → List V → Hp → VK → Prop} {n : Str} {p1 : Pos} {xs : List Expr} (ok : okName C.N C.sc i n = true) (h : SndA C W xs (evOs Φ shs es))
    (pe : ∀ X, AtE C W X → PE X whole (fun σ H Q => tE C W (.Name n p1) σ H fun v H1 => tyV C.K "list" v H1 ∧ tA C W xs σ H1 fun us H2 => r v us H2 Q))
    (rule : ∀ (M H : Hp) (a : Addr) (ds : List G.D) (vs : List V) (args : List G.D) (us : List V) (y : G.D) (ys : List G.D) (Q : VK), Same M H → M a = none → H a = some (.lst vs) → Reps C.K M ds vs → Reps C.K M args us → mthD m ds args = some (y, ys) →
      (∀ w ws, Rep C.K M y w → Reps C.K M ys ws → Q w (upd H a (.lst ws))) → r (.ref a) us H Q) : SndE C W whole (evE Φ shs (.mth m i es)) := by
  intro M H σ nv Q st hd
  refine tE.by pe ?_
  rw [evE] at hd
  unfold mthOn at hd
  split at hd
  · rename_i f0 xs0 q0
    obtain ⟨w, ew, a, _, rfl, e0, e1, vs0, rfl, _⟩ := st.get i _ q0
    refine tE.by (pe_name ok) ⟨_, ew, .inl ⟨rfl, vs0, SqL.of e1⟩, ?_⟩
    refine h M H σ nv _ st ?_
    cases e2 : evOs Φ shs es nv with
    | stuck => rw [e2] at hd; exact hd.elim
    | exc c as nv1 => rw [e2] at hd; exact hd
    | ok os nv1 =>
      rw [e2] at hd
      intro M1 H1 s1 st1 us hu
      have hd := DoneE.later hd s1
      simp only [Rs.bind] at hd
      split at hd
      · rename_i ds f xs q1 q2
        split at hd
        · rename_i y ys q3
          obtain ⟨w', ew', b, _, rfl, h1, h2, vs, rfl, h3⟩ := st1.get i _ q2
          rw [ew] at ew'
          cases ew'
          refine rule M1 H1 a xs vs ds us y ys Q st1.ext h1 h2 h3 (OpdsR.inls hu q1) q3 fun w ws ry rys => ?_
          obtain ⟨c1, c2⟩ := st1.change (ys := ys) q2 ew rys
          exact hd w M1 _ (c2.less fun a h => h.elim (fun z => z) False.elim) c1 ry
        · exact hd.elim
      · exact hd.elim
  · exact hd.elim
end
end G
namespace G
open PySem PySem.Spec PyProof.Rows L2
variable [Tb]
section
variable {C : Cfg} {W : WX} {M H M1 H1 : Hp} {σ σ' : L2.St} {nv nv1 : Nv} {Φ : Fn} {shs : Nat → Nat → Shape}
/-! ### methods by name -/
theorem pe_mm {T id : String} {f : Str} {r : V → List V → Hp → VK → Prop} {x y : Expr} {xs : List Expr} {apos pos : Pos} (pa : PlainAttrs T) (slot : Slot T f id) (hty : typeOf (.builtin id) = pure (.type "method_descriptor")) (hl : (apos.endLine == pos.line) = true) (ns : noStars (y :: xs) = true) (few : (y :: xs).length < 30)
    (hb : ∀ env, attributeBase x f env (eval x env) = eval x env) (X : Cx) (hX : AtE C W X) (hm : MtR X id r) : PE X (.Call (.Attribute x f apos) (y :: xs) [] pos) (fun σ H Q => tE C W x σ H fun v H1 => tyV C.K T v H1 ∧ tA C W (y :: xs) σ H1 fun us H2 => r v us H2 Q) := by
  obtain ⟨n1, n2⟩ := noStars_cons ns
  rw [← hX.K]
  refine pe_bm pa slot hty hm (PEo hX x) (PAo hX (y :: xs)) (hb _) ?_ hl (star_cons n1 _ _) (plain_back n2)
  have h1 := few_back (env := X.env) (pos := pos) ns
  rw [h1]
  simp only [Bool.true_and, Bool.and_eq_true, decide_eq_true_eq]
  refine ⟨rfl, ?_⟩
  simp only [List.length_cons, List.length_nil, List.isEmpty_nil, if_true] at few ⊢
  omega
theorem s_app {i : Nat} {n : Str} {p1 apos pos : Pos} {y : Expr} {xs : List Expr} {es : List E} (ok : okName C.N C.sc i n = true) (hl : (apos.endLine == pos.line) = true) (ns : noStars (y :: xs) = true) (few : (y :: xs).length < 30) (h : SndA C W (y :: xs) (evOs Φ shs es)) :
    SndE C W (.Call (.Attribute (.Name n p1) "append" apos) (y :: xs) [] pos) (evE Φ shs (.mth .app i es)) :=
  snd_mth (r := rAppend) ok h (fun X hX => pe_mm PySem.F.plainAttrs_list PySem.F.slot_list_append PySem.F.type_list_append hl ns few (fun _ => rfl) X hX mt_append) (fun M H a ds vs args us w ws Q sm hM hH hr ha hd k => by
    match args, hd with
    | [y], hd =>
      simp only [mthD] at hd
      split at hd <;> try (cases hd; done)
      rename_i hz
      cases hd
      simp only [Reps] at ha
      obtain ⟨v, us', rfl, h1, rfl⟩ := ha
      refine ⟨a, vs, v, rfl, rfl, hH, ?_, k .non _ (by simp [Rep]) (hr.append (Reps.one h1))⟩
      rw [← hr.length, sizeLine_eq]; exact hz
    | [], hd => cases hd
    | _ :: _ :: _, hd => simp [mthD] at hd)
theorem s_ext {i : Nat} {n : Str} {p1 apos pos : Pos} {y : Expr} {xs : List Expr} {es : List E} (ok : okName C.N C.sc i n = true) (hl : (apos.endLine == pos.line) = true) (ns : noStars (y :: xs) = true) (few : (y :: xs).length < 30) (h : SndA C W (y :: xs) (evOs Φ shs es)) :
    SndE C W (.Call (.Attribute (.Name n p1) "extend" apos) (y :: xs) [] pos) (evE Φ shs (.mth .ext i es)) :=
  snd_mth (r := rExtend) ok h (fun X hX => pe_mm PySem.F.plainAttrs_list PySem.F.slot_list_extend PySem.F.type_list_extend hl ns few (fun _ => rfl) X hX mt_extend) (fun M H a ds vs args us w ws Q sm hM hH hr ha hd k => by
    match args, hd with
    | [.lst ys], hd =>
      simp only [mthD] at hd
      split at hd <;> try (cases hd; done)
      rename_i hz
      cases hd
      simp only [Reps, Rep] at ha
      obtain ⟨v, us', rfl, ⟨b, zs, rfl, h2, h3⟩, rfl⟩ := ha
      refine ⟨a, b, vs, zs, rfl, rfl, hH, sm _ _ h2, ?_, k .non _ (by simp [Rep]) (hr.append h3)⟩
      rw [← hr.length, ← h3.length, sizeLine_eq]; exact hz
    | [], hd => cases hd
    | [.non], hd => cases hd
    | [.bl _], hd => cases hd
    | [.int _], hd => cases hd
    | [.str _], hd => cases hd
    | [.tup _], hd => cases hd
    | [.scr _], hd => cases hd
    | _ :: _ :: _, hd => simp [mthD] at hd)
end
end G
namespace G
open PySem PySem.Spec PyProof.Rows L2
variable [Tb]
/-- where the body of a def runs -/
def cfgOf (P : Program) (w : World) (K : PySem.W.Frag) (mg : Str → Option Value) (base : Heap) (sc : Scope) (N : List Str) (pr : List Nat) (k : Nat) (exA : Nat → Option Addr) (cd : Option (Value × Str) := none) : Cfg :=
  { P := P, w := w, K := K, mg := mg, base := base, N := N, sc := sc, cd := cd, st := fun x => (decide (sc.names.lookup x = some .local) || decide (sc.names.lookup x = some .cell)) && !(pr.any fun i => decide (N[i]? = some x)), k := k, exA := exA, pr := pr }
theorem mapM_at {α β : Type} {f : α → Option β} : ∀ {l : List α} {ys : List β}, l.mapM f = some ys → ys.length = l.length ∧ ∀ (p : Nat) (s : β), ys[p]? = some s → ∃ x : α, l[p]? = some x ∧ f x = some s
  | [], ys, h => by
    rw [List.mapM_nil] at h
    cases h
    exact ⟨rfl, fun p s e => by simp at e⟩
  | x :: l, ys, h => by
    rw [List.mapM_cons] at h
    cases e1 : f x with
    | none => rw [e1] at h; cases h
    | some y =>
      rw [e1] at h
      cases e2 : l.mapM f with
      | none => rw [e2] at h; cases h
      | some zs =>
        rw [e2] at h
        cases h
        obtain ⟨h1, h2⟩ := mapM_at e2
        refine ⟨by simp [h1], fun p s e => ?_⟩
        cases p with
        | zero => cases e; exact ⟨x, rfl, e1⟩
        | succ p => exact h2 p s (by simpa using e)
theorem outsOf_at {pr : List Nat} {ss outs : List Sl} {nv : Nv} (h : outsOf pr ss nv = some outs) {p : Nat} {s : Sl} (e : outs[p]? = some s) : if pr.contains p = true then nv[p]? = some (some s) else ss[p]? = some s := by
  obtain ⟨_, h2⟩ := mapM_at h
  obtain ⟨x, h3, h4⟩ := h2 p s e
  have hx : p = x := by
    rw [List.getElem?_range (by have := (List.getElem?_eq_some_iff.mp h3).1; simpa using this)] at h3
    exact Option.some.inj h3
  subst hx
  split at h4
  · rename_i c
    rw [if_pos c]
    cases q : nv[p]? with
    | none => rw [q] at h4; cases h4
    | some o => rw [q] at h4; cases o <;> cases h4; rfl
  · rename_i c
    rw [if_neg c]
    exact h4
theorem outsOf_len {pr : List Nat} {ss outs : List Sl} {nv : Nv} (h : outsOf pr ss nv = some outs) : outs.length = ss.length := by
  have := (mapM_at h).1
  simpa using this
theorem start_get {ss : List Sl} {n p : Nat} {s : Sl} (h : (startNv n ss)[p]? = some (some s)) : ss[p]? = some s := by
  unfold startNv at h
  by_cases hp : p < ss.length
  · rw [List.getElem?_append_left (by simpa using hp), List.getElem?_map] at h
    cases q : ss[p]? with
    | none => rw [q] at h; cases h
    | some x => rw [q] at h; cases h; rfl
  · rw [List.getElem?_append_right (by simpa using hp), List.getElem?_replicate] at h
    split at h <;> cases h
theorem start_of {N : List Str} {vs : List V} {p : Nat} (hp : p < vs.length) : (L2.start N vs)[p]? = (vs.map some)[p]? := by
  unfold L2.start
  rw [List.getElem?_append_left (by simpa using hp)]
theorem startN_of {n : Nat} {ss : List Sl} {p : Nat} (hp : p < ss.length) : (startNv n ss)[p]? = (ss.map some)[p]? := by
  unfold startNv
  rw [List.getElem?_append_left (by simpa using hp)]
theorem some_get {α : Type} {l : List α} {p : Nat} {x : α} : (l.map some)[p]? = some (some x) ↔ l[p]? = some x := by
  rw [List.getElem?_map]
  cases l[p]? <;> simp
section
variable {K : PySem.W.Frag} {M H : Hp}
theorem start_st {N : List Str} {vs : List V} {ss : List Sl} (hN : ss.length ≤ N.length) (st : StR K M H (vs.map some) (ss.map some)) : StR K M H (L2.start N vs) (startNv N.length ss) := by
  have hl : ss.length = vs.length := by simpa using st.len
  refine ⟨st.ext, by simp [L2.start, startNv, hl], fun i s h => ?_, fun i j f g xs ys v h1 h2 h3 h4 => ?_, st.tb⟩
  · have h' := start_get h
    obtain ⟨v, e1, e2⟩ := st.get i s (some_get.mpr h')
    refine ⟨v, ?_, e2⟩
    rw [start_of (hl ▸ (List.getElem?_eq_some_iff.mp h').1)]
    exact e1
  · have a1 := start_get h1
    have a2 := start_get h2
    rw [start_of (hl ▸ (List.getElem?_eq_some_iff.mp a1).1)] at h3
    rw [start_of (hl ▸ (List.getElem?_eq_some_iff.mp a2).1)] at h4
    exact st.apart i j f g xs ys v (some_get.mpr a1) (some_get.mpr a2) h3 h4
theorem start_own {N : List Str} {vs : List V} {ss : List Sl} {a : Addr} (hl : ss.length = vs.length) : Own (L2.start N vs) (startNv N.length ss) a ↔ Own (vs.map some) (ss.map some) a := by
  constructor
  · rintro (⟨i, f, ds, h1, h2⟩ | h)
    case inr => exact .inr h
    have h' := start_get h1
    rw [start_of (hl ▸ (List.getElem?_eq_some_iff.mp h').1)] at h2
    exact .inl ⟨i, f, ds, some_get.mpr h', h2⟩
  · rintro (⟨i, f, ds, h1, h2⟩ | h)
    case inr => exact .inr h
    have hp : i < ss.length := (List.getElem?_eq_some_iff.mp (some_get.mp h1)).1
    exact .inl ⟨i, f, ds, by rw [startN_of hp]; exact h1, by rw [start_of (hl ▸ hp)]; exact h2⟩
/-- at the end of a body: the parameters' slots -/
theorem outs_st {C : Cfg} {vs : List V} {ss outs : List Sl} {σ' : L2.St} {nv' : Nv} {M' H' : Hp} {N : List Str} (st : StR K M H (vs.map some) (ss.map some)) (lk : lentOk C.pr ss = true)
    (pk : Pk C (L2.start N vs) σ') (mm : Same M M') (st' : StR K M' H' σ' nv') (ho : outsOf C.pr ss nv' = some outs) :
    StR K M' H' (vs.map some) (outs.map some) ∧ ∀ a, Own (vs.map some) (outs.map some) a → Own σ' nv' a := by
  have hl : ss.length = vs.length := by simpa using st.len
  have hol := outsOf_len ho
  have key : ∀ (p : Nat) (s : Sl), outs[p]? = some s → (nv'[p]? = some (some s) ∧ σ'[p]? = (vs.map some)[p]?) ∨ (ss[p]? = some s ∧ ∀ f ds, s ≠ Sl.lv f ds) := by
    intro p s e
    have hp : p < vs.length := by
      have := (List.getElem?_eq_some_iff.mp e).1
      omega
    have h := outsOf_at ho e
    split at h
    · rename_i c
      exact .inl ⟨h, by rw [pk.2 p (by simpa using c), start_of hp]⟩
    · rename_i c
      refine .inr ⟨h, ?_⟩
      cases s with
      | val d => exact fun _ _ z => nomatch z
      | fn m ds => exact fun _ _ z => nomatch z
      | lv f ds =>
        exfalso
        unfold lentOk at lk
        rw [List.all_eq_true] at lk
        have := lk p (by simp; omega)
        rw [h] at this
        exact c this
  refine ⟨⟨st'.ext, by simp [hol, hl], fun i s h => ?_, fun i j f g xs ys v h1 h2 h3 h4 => ?_, st'.tb⟩, ?_⟩
  · rcases key i s (some_get.mp h) with ⟨a, b⟩ | ⟨a, n⟩
    · obtain ⟨v, e1, e2⟩ := st'.get i s a
      exact ⟨v, b ▸ e1, e2⟩
    · obtain ⟨v, e1, e2⟩ := st.get i _ (some_get.mpr a)
      refine ⟨v, e1, ?_⟩
      cases s with
      | val d => exact Rep.mono mm e2
      | fn m ds => exact FnR.mono mm e2
      | lv f ds => exact absurd rfl (n _ _)
  · rcases key i _ (some_get.mp h1) with ⟨a, b⟩ | ⟨a, e⟩
    · rcases key j _ (some_get.mp h2) with ⟨a2, b2⟩ | ⟨a2, e⟩
      · exact st'.apart i j f g xs ys v a a2 (b ▸ h3) (b2 ▸ h4)
      · exact absurd rfl (e _ _)
    · exact absurd rfl (e _ _)
  · rintro a (⟨i, f, ds, h1, h2⟩ | h)
    case inr => exact .inr h
    rcases key i _ (some_get.mp h1) with ⟨a1, b⟩ | ⟨a1, e⟩
    · exact .inl ⟨i, f, ds, a1, b ▸ h2⟩
    · exact absurd rfl (e _ _)
end
/-- a def keeps what its reckoning says -/
theorem df_ok {P : Program} {w : World} {K : PySem.W.Frag} {mg : Str → Option Value} {base : Heap} {x qual : Str} {st : Stmt} {f : Addr} {fd : FuncData} {N ps : List Str} {k : Nat} {Φ : Fn} {shs : Nat → Nat → Shape} {exA : Nat → Option Addr} {i : Nat} {d : Df} {Φ' : Fn} {C0 : Cfg} {cd : Option (Value × Str)}
    (hK : C0.K = K) (hX : C0.exA = exA) (F : Fun K x qual st f fd) (hcd0 : ∀ q, cd = some q → fd.code = q.1 ∧ q.2 = qual ++ ".<locals>.") (S : FnScope N ps (defScope st)) (hn : d.n = N.length)
    (hb : ∀ W, SndB (cfgOf P w K mg base (defScope st) N d.pr k exA cd) W (defBody st) (evB Φ shs d.body)) (hΦ : ∀ ss, Φ' i ss = runDf Φ shs d ss) :
    FnOk P w K mg base (L2.CX P w) (k + 2) f fd ps (spOf C0 Φ' i ps.length) := by
  have hle : ps.length ≤ N.length := by
    have := congrArg List.length S.pre
    rw [List.length_take] at this
    omega
  obtain ⟨oc, od, kV, doc, pm, an, cdv, ct, osl, rfl, lk, hcd⟩ := F.ex
  refine fn_of (k := k + 1) lk hcd S (fun vs H Q E h => h.1) (fun A outer s H vs Q E hr h => ?_)
  obtain ⟨hlen, M, ss, st0, hd⟩ := h
  rw [hK] at st0
  have hl : ss.length = vs.length := by simpa using st0.len
  refine ⟨_, PSso (X := cxOf (L2.CX P w) P w K mg base N qual (defScope st) f cdv A outer s H E) (C := cfgOf P w K mg base (defScope st) N d.pr k exA cd) (W := fun cls d _ H => E cls d H) ⟨⟨rfl, rfl, rfl, rfl, rfl, rfl, rfl, rfl, hr, S.nd, takes_of rfl rfl rfl rfl, fun x hx => ⟨((Bool.or_eq_true _ _).mp ((Bool.and_eq_true _ _).mp hx).1).elim (fun h => .inl (of_decide_eq_true h)) (fun h => .inr (of_decide_eq_true h)), .inl rfl⟩, fun q h => ⟨(hcd0 q h).1, (hcd0 q h).2.symm⟩⟩, passes_of rfl, rfl, rfl, rfl⟩ _, ?_⟩
  refine hb _ M H (L2.start N vs) (startNv N.length ss) _ (start_st (by omega) st0) ?_
  rw [hΦ] at hd
  unfold runDf at hd
  split at hd
  · rename_i lk
    rw [hn] at hd
    cases e : evB Φ shs d.body (startNv N.length ss) with
    | ok fl nv' =>
      rw [e] at hd
      cases fl with
      | ret r =>
        intro σ' v M' H' pk s1 st1 rr
        simp only [endDf] at hd
        cases ho : outsOf d.pr ss nv' with
        | none => rw [ho] at hd; exact hd.elim
        | some outs =>
          rw [ho] at hd
          obtain ⟨h1, h2⟩ := outs_st (C := cfgOf P w K mg base (defScope st) N d.pr k exA cd) st0 lk pk s1.mm st1 ho
          refine hd v M' H' ⟨s1.mm, fun a o h n => s1.keep a o h fun z => n ((start_own hl).mp z), fun a z => ?_, s1.dom, fun a o h => ?_⟩ (hK ▸ h1) ?_
          · rcases s1.own a (z.elim (fun z => .inl (h2 a z)) .inr) with z | z
            · exact .inl ((start_own hl).mp z)
            · exact .inr z
          · rcases s1.mnew a o h with z | z | z
            · exact .inl z
            · exact .inr (.inl ((start_own hl).mp z))
            · exact .inr (.inr z)
          · rw [hK]
            cases r with
            | val dd => exact rr
            | own ds =>
              obtain ⟨a, ws, e1, e2, e3, e4, e5⟩ := rr
              exact ⟨a, ws, e1, e2, e3, fun z => e4 (h2 a z), e5⟩
      | nx =>
        intro σ' M' H' pk s1 st1
        simp only [endDf] at hd
        cases ho : outsOf d.pr ss nv' with
        | none => rw [ho] at hd; exact hd.elim
        | some outs =>
          rw [ho] at hd
          obtain ⟨h1, h2⟩ := outs_st (C := cfgOf P w K mg base (defScope st) N d.pr k exA cd) st0 lk pk s1.mm st1 ho
          refine hd .non M' H' ⟨s1.mm, fun a o h n => s1.keep a o h fun z => n ((start_own hl).mp z), fun a z => ?_, s1.dom, fun a o h => ?_⟩ (hK ▸ h1) ?_
          · rcases s1.own a (z.elim (fun z => (h2 a z)) fun z => z.elim) with z | z
            · exact .inl ((start_own hl).mp z)
            · exact .inr z
          · rcases s1.mnew a o h with z | z | z
            · exact .inl z
            · exact .inr (.inl ((start_own hl).mp z))
            · exact .inr (.inr z)
          · simp [RR, Rep]
      | brk => exact hd.elim
      | cnt => exact hd.elim
    | exc c as nv' =>
      rw [e] at hd
      intro σ' cls dd M' H' pk s1 st1 er
      simp only [endDf] at hd
      cases ho : outsOf d.pr ss nv' with
      | none => rw [ho] at hd; exact hd.elim
      | some outs =>
        rw [ho] at hd
        obtain ⟨h1, h2⟩ := outs_st (C := cfgOf P w K mg base (defScope st) N d.pr k exA cd) st0 lk pk s1.mm st1 ho
        refine hd cls dd M' H' ⟨s1.mm, fun a o h n => s1.keep a o h fun z => n ((start_own hl).mp z), fun a z => ?_, s1.dom, fun a o h => ?_⟩ (hK ▸ h1) ?_
        · rcases s1.own a (h2 a z) with z | z
          · exact .inl ((start_own hl).mp z)
          · exact .inr z
        · rcases s1.mnew a o h with z | z | z
          · exact .inl z
          · exact .inr (.inl ((start_own hl).mp z))
          · exact .inr (.inr z)
        · obtain ⟨a, z1, z2⟩ := er
          exact ⟨a, by rw [hX]; exact z1, z2⟩
    | stuck => rw [e] at hd; exact hd.elim
  · exact hd.elim
end G
namespace G
open PySem PySem.Spec PyProof.Rows L2
variable [Tb]
theorem pr_cfg {P : Program} {w : World} {K : PySem.W.Frag} {mg : Str → Option Value} {base : Heap} {sc : Scope} {N : List Str} {pr : List Nat} {k : Nat} {exA : Nat → Option Addr} {cd : Option (Value × Str)} : PrOk (cfgOf P w K mg base sc N pr k exA cd) := by
  intro x i h1 h2 h3
  have h4 : (pr.any fun i => decide (N[i]? = some x)) = false := by
    have := ((Bool.and_eq_true _ _).mp h1).2
    simpa using this
  rw [List.any_eq_false] at h4
  exact h4 i h3 (decide_eq_true h2)
theorem ninOf {t : T} {pr : List Nat} (h : (t.slots.all fun i => !pr.contains i) = true) : ∀ i ∈ t.slots, i ∉ pr := fun i hi hp => by
  rw [List.all_eq_true] at h
  have := h i hi
  simp [hp] at this
theorem inOf {t : T} {own : List Nat} (h : (t.slots.all fun i => own.contains i) = true) : ∀ i ∈ t.slots, i ∈ own := fun i hi => by
  rw [List.all_eq_true] at h
  simpa using h i hi
section
variable {C : Cfg} {W : WX} {M H M1 H1 : Hp} {σ σ' : L2.St} {nv nv1 : Nv} {Φ : Fn} {shs : Nat → Nat → Shape}
theorem FtOk.blk {ft : Nat → Option FnI} {T : ShT} (F : FtOk C Φ ft T) (s : Scope) : FtOk (C.blk s) Φ ft T := ⟨F.at_, F.sh⟩
theorem BltOk.blk (B : BltOk C) (s : Scope) : BltOk (C.blk s) := B
theorem snd_one {op : BoolOp} {x : Expr} {pos : Pos} {f : Nv → Rs R} (h : SndE C W x f) : SndE C W (.BoolOp op [x] pos) f := fun M H σ nv Q st hd => tE.by (fun X hX => pe_one (PEo hX x)) (h M H σ nv Q st hd)
theorem snd_andN {x y : Expr} {xs : List Expr} {pos : Pos} {a b : E} (ha : SndE C W x (evE Φ shs a)) (hb : SndE C W (.BoolOp .And (y :: xs) pos) (evE Φ shs b)) : SndE C W (.BoolOp .And (x :: y :: xs) pos) (evE Φ shs (.and_ a b)) :=
  snd_and ha hb fun X hX => pe_and (PEo hX x) (PEo hX _)
theorem snd_orN {x y : Expr} {xs : List Expr} {pos : Pos} {a b : E} (ha : SndE C W x (evE Φ shs a)) (hb : SndE C W (.BoolOp .Or (y :: xs) pos) (evE Φ shs b)) : SndE C W (.BoolOp .Or (x :: y :: xs) pos) (evE Φ shs (.or_ a b)) :=
  snd_or ha hb fun X hX => pe_or (PEo hX x) (PEo hX _)
theorem so_v {i : Nat} {x : Str} {pos : Pos} (h : okName C.N C.sc i x = true) : SO C W Φ shs (.Name x pos) (.var i) := sndO_var h _
theorem so_e {x : Expr} {a : E} (na : isVar a = false) (h : SndE C W x (evE Φ shs a)) : SO C W Φ shs x a := sndO_of na h
theorem sa_b {x : Str} {p : Pos} {xs : List Expr} {i : Nat} {es : List E} (h : okName C.N C.sc i x = true) (hs : SndA C W xs (evOs Φ shs es)) : SndA C W (.Name x p :: xs) (evOs Φ shs (.brw i :: es)) := sndA_cons rfl (.inl ⟨i, rfl, x, p, rfl, h⟩) hs
theorem brw_no {e : E} (h : isBrw e = false) : ∀ i, e ≠ .brw i := fun i z => by subst z; cases h
theorem sa_e {x : Expr} {xs : List Expr} {e : E} {es : List E} (ns : noStar x = true) (nb : isBrw e = false) (h : SndE C W x (evE Φ shs e)) (hs : SndA C W xs (evOs Φ shs es)) : SndA C W (x :: xs) (evOs Φ shs (e :: es)) := sndA_cons ns (.inr ⟨brw_no nb, h⟩) hs
theorem sw_and1 {x y : Expr} {a b : E} {pos : Pos} (ha : SndT C W x (evE Φ shs a)) (hb : SndT C W y (evE Φ shs b)) : SndW C W (.BoolOp .And [x, y] pos) (evE Φ shs (.and_ a b)) := sndW_and ha (.inl ⟨rfl, hb⟩)
theorem sw_or1 {x y : Expr} {a b : E} {pos : Pos} (ha : SndT C W x (evE Φ shs a)) (hb : SndT C W y (evE Φ shs b)) : SndW C W (.BoolOp .Or [x, y] pos) (evE Φ shs (.or_ a b)) := sndW_or ha (.inl ⟨rfl, hb⟩)
end
end G
namespace G
open PySem PySem.Spec PyProof.Rows L2
variable [Tb]
theorem arrO_map : ∀ {ks : List Nat} {os os' : List (D ⊕ Nat)}, arrO (ks.map .inl) os = some os' → os'.length = ks.length ∧ ∀ (p x : Nat), ks[p]? = some x → os'[p]? = os[x]?
  | [], os, os', h => by
    cases h
    exact ⟨rfl, fun p x e => by simp at e⟩
  | k :: ks, os, os', h => by
    simp only [List.map_cons, arrO] at h
    split at h
    · rename_i o r' e1 e2
      cases h
      obtain ⟨h1, h2⟩ := arrO_map e2
      refine ⟨by simp [h1], fun p x e => ?_⟩
      cases p with
      | zero => cases e; simpa using e1.symm
      | succ p => simpa using h2 p x (by simpa using e)
    · cases h
theorem arrO_range {os os' : List (D ⊕ Nat)} {n : Nat} (hn : os.length = n) (h : arrO ((List.range n).map .inl) os = some os') : os' = os := by
  obtain ⟨h1, h2⟩ := arrO_map h
  rw [List.length_range] at h1
  apply List.ext_getElem?
  intro p
  by_cases hp : p < n
  · exact h2 p p (List.getElem?_range hp)
  · rw [List.getElem?_eq_none (by omega), List.getElem?_eq_none (by omega)]
theorem OpdsR.len {K : PySem.W.Frag} {M : Hp} {σ : L2.St} : ∀ {os : List (D ⊕ Nat)} {vs : List V}, OpdsR K M σ os vs → os.length = vs.length
  | [], vs, h => by
    have h : vs = [] := h
    subst h
    rfl
  | o :: os, vs, h => by
    obtain ⟨v, vs', rfl, e2, e3⟩ := h
    simp [OpdsR.len e3]
theorem vals_len {vs : List V} {us : List Value} (h : Vals vs us) : vs.length = us.length := by
  induction h with
  | nil => rfl
  | cons _ _ ih => simp [ih]
/-- a call that writes every parameter by its place -/
theorem shok_pos {K : PySem.W.Frag} {fd : FuncData} {ps : List Str} (n : Nat) (hn : ps.length = n) (b : L2.Binds K fd ps []) : ShOk K fd ps [] n ((List.range n).map .inl) := by
  refine ⟨fun us _ => us, fun s us ws hk hl hw => ?_, fun M σ os os' vs zs us ws hl hw hv hz ho ha => ?_⟩
  · have hw : ws = [] := List.length_eq_zero_iff.mp hw
    subst hw
    have := b s us hk (by simpa [hn] using hl)
    simpa using this
  · have hw : ws = [] := List.length_eq_zero_iff.mp hw
    subst hw
    cases hz
    rw [List.append_nil] at ho
    have e := arrO_range (by rw [ho.len, vals_len hv, hl]) ha
    subst e
    exact ⟨vs, hv, ho, by rw [vals_len hv, hl, hn]⟩
section
variable {P : Program} {w : World} {K : PySem.W.Frag} {mg : Str → Option Value} {base : Heap} {k : Nat} {exA : Nat → Option Addr}
theorem ft_move {sc sc' : Scope} {N N' : List Str} {pr pr' : List Nat} {Φ : Fn} {ft : Nat → Option FnI} {T : ShT} {cd cd' : Option (Value × Str)} (F : FtOk (cfgOf P w K mg base sc N pr k exA cd) Φ ft T) : FtOk (cfgOf P w K mg base sc' N' pr' k exA cd') Φ ft T := ⟨F.at_, F.sh⟩
theorem fn_zero {C : Cfg} {f : Addr} {fd : FuncData} {ps : List Str} {ds : List Df} {shs : Nat → Nat → Shape} {i : Nat} : FnOk P w K mg base (L2.CX P w) 0 f fd ps (spOf C (calls ds shs 0) i ps.length) :=
  ⟨fun vs H Q E h => h.1, fun A outer s H args us vs Q E hr he hb hv hs => by
    obtain ⟨_, M, ss, _, h⟩ := hs
    exact h.elim⟩
/-- what the law promises -/
def spLaw (K : PySem.W.Frag) : Sp := fun vs H Q _ => ∃ (a : Addr) (ns : List Int), vs = [.ref a] ∧ SqL K H a (ns.map V.int) ∧ ns.length ≤ 63 ∧ (∀ p ∈ Tb.tabs, H p.1 = some (.tbl #[])) ∧ ∀ H', Q (.bl true) H'
/-- the heap without the tables -/
noncomputable def hidT (H : Hp) : Hp := open Classical in fun b => if TbA b then none else H b
theorem hidT_some {H : Hp} {b : Addr} {o : HO} (h : hidT H b = some o) : H b = some o := by
  unfold hidT at h
  split at h
  · cases h
  · exact h
theorem law_imp {C : Cfg} {Φ : Fn} {i : Nat} (hK : C.K = K) (h : ∀ ns : List Int, ns.length ≤ 63 → ∃ outs, Φ i [.val (.scr ns)] = .ok (.val (.bl true)) outs) (vs : List V) (H : Hp) (Q : VK) (E : XK) (sp : spLaw K vs H Q E) : spOf C Φ i 1 vs H Q E := by
  obtain ⟨a, ns, rfl, hS, hl, hT, q⟩ := sp
  obtain ⟨outs, e⟩ := h ns hl
  have key : ∀ o : HO, (∀ ps, o ≠ .tbl ps) → H a = some o → hidT H a = some o := fun o no ho => by
    unfold hidT
    rw [if_neg]
    · exact ho
    · rintro ⟨p, hp, rfl⟩
      rw [hT p hp] at ho
      cases ho
      exact no _ rfl
  have hS' : SqL K (hidT H) a (ns.map V.int) := by
    rcases hS with (h | ⟨o, h⟩) | h
    · exact .inl (.inl (key _ (fun _ z => nomatch z) h))
    · exact .inl (.inr ⟨o, key _ (fun _ z => nomatch z) h⟩)
    · exact .inr h
  refine ⟨rfl, hidT H, [.val (.scr ns)], ⟨fun b o h => hidT_some h, rfl, fun i s h => ?_, fun i j f g xs ys v h => ?_, fun p hp => ⟨?_, .nil (hT p hp)⟩⟩, ?_⟩
  · match i, h with
    | 0, h => cases h; exact ⟨.ref a, rfl, by simp only [SlR, Rep]; exact ⟨a, rfl, hK ▸ hS'⟩⟩
    | i + 1, h => simp at h
  · match i, h with
    | 0, h => cases h
    | i + 1, h => simp at h
  · unfold hidT
    rw [if_pos ⟨p, hp, rfl⟩]
  · rw [e]
    intro v M' H' _ _ r
    simp only [RR, Rep] at r
    subst r
    exact q H'
end
end G
namespace G
open PySem PySem.Spec PyProof.Rows L2
theorem cx_no {P : Program} {w : World} {H : Hp} {s s' : Shared} {e : Value} {o : List Env} (h : L2.CX P w o H s (fun _ _ _ => False) e s') : False := by
  obtain ⟨_, _, _, _, _, _, _, _, _, _, _, _, z⟩ := h
  exact z.elim
end G
namespace G
theorem calls_succ {ds : List Df} {shs : Nat → Nat → Shape} {k i : Nat} {d : Df} {ss : List Sl} (h : ds[i]? = some d) : calls ds shs (k + 1) i ss = runDf (calls ds shs k) shs d ss := by
  simp only [calls, h]
end G
namespace G
open PySem PySem.Spec PyProof.Rows L2
variable [Tb]
section
variable {C : Cfg} {W : WX} {M H M1 H1 : Hp} {σ σ' : L2.St} {nv nv1 : Nv} {Φ : Fn} {shs : Nat → Nat → Shape} {K : PySem.W.Frag}
/-! ### slices -/
def tP (C : Cfg) (W : WX) : Option Expr → TO
  | none => tNoPart
  | some x => tPart (tE C W x)
theorem po_of {X : Cx} (hX : AtE C W X) : ∀ o : Option Expr, PO X o (tP C W o)
  | none => po_none
  | some x => po_some (PEo hX x)
def isNonE : E → Bool
  | .non => true
  | _ => false
def PartS (C : Cfg) (W : WX) (Φ : Fn) (shs : Nat → Nat → Shape) (o : Option Expr) (e : E) : Prop := (o = none ∧ e = .non) ∨ ∃ x, o = some x ∧ isNonE e = false ∧ SndE C W x (evE Φ shs e)
theorem cut_reps {M : Hp} {ds : List D} {vs : List V} (r : Reps K M ds vs) (lo hi : Option Int) : Reps K M (cutD ds lo hi) (cutV vs lo hi) := by
  unfold cutD cutV
  rw [r.length]
  exact (r.drop _).take _
def rSl (K : PySem.W.Frag) : V → Option Int → Option Int → Hp → VK → Prop := fun x lo hi H Q => GT.rSlN K x lo hi H Q ∨ rSlL K x lo hi H Q ∨ rSlS x lo hi H Q
theorem ok_slc {M H : Hp} {d : D} {v : V} {lo hi : Option Int} {res : R} {Q : VK} (sm : Same M H) (rd : RepT K M H d v) (q : pSlc d lo hi = some res) (k : ∀ v' M' H', Prim M H M' H' → PR K M H M' H' res v' → Q v' H') : rSl K v lo hi H Q := by
  cases d <;> simp only [pSlc] at q <;> try cases q
  · rename_i z
    split at q <;> try cases q
    rename_i hz
    exact .inr (.inr ⟨z, rd, SZ_le hz, PR.val0 sm k (by simp [Rep])⟩)
  · rename_i xs
    obtain ⟨a, vs, rfl, h1, h2⟩ := rd
    refine .inl ⟨a, vs, rfl, SqT.up sm h1, fun z => ?_, fun _ => PR.tup sm k (cut_reps h2 lo hi)⟩
    have e : cutD xs lo hi = xs := by
      unfold cutD
      rw [h2.length, z.1, z.2, ← h2.length]
      simp
    refine PR.val0 sm k ?_
    rw [e]
    simp only [Rep]
    exact ⟨a, vs, rfl, h1, h2⟩
  · rename_i xs
    obtain ⟨a, vs, rfl, h1, h2⟩ := rd
    exact .inr (.inl ⟨a, vs, rfl, .inl (.inl h1), fun p np => PR.lst sm k (cut_reps h2 lo hi) np⟩)
theorem part_then {o : Option Expr} {e : E} {Q : Option Int → Hp → Prop} {Qv : VK} {g : R → Nv → Rs R} (h : PartS C W Φ shs o e) (st : StR C.K M H σ nv) (hd : DoneE C W M H σ nv ((evE Φ shs e nv).bind g) Qv)
    (stuck : ∀ r nv1 M1 H1, part e r.frz = none → DoneE C W M1 H1 σ nv1 (g r nv1) Qv → False)
    (k : ∀ r nv1 M1 H1 i, part e r.frz = some i → StR C.K M1 H1 σ nv1 → Step M H (Own σ nv) M1 H1 (Own σ nv1) → DoneE C W M1 H1 σ nv1 (g r nv1) Qv → Q i H1) : tP C W o σ H Q := by
  rcases h with ⟨rfl, rfl⟩ | ⟨x, rfl, hn, h⟩
  · exact k (.val .non) nv M H none rfl st (Step.refl _ _ _) hd
  · show tE C W x σ H fun v H1 => ∃ i, v = .int i ∧ Q (some i) H1
    refine SndE.thenE h st hd fun r nv1 v M1 H1 e1 st1 rp s1 hd1 => ?_
    cases q : part e r.frz with
    | none => exact (stuck r nv1 M1 H1 q hd1).elim
    | some i =>
      have hi : ∃ j, r.frz = .int j ∧ i = some j := by
        revert q
        generalize r.frz = d
        intro q
        cases e <;> (first | (cases hn; done) | skip) <;> cases d <;> simp [part] at q <;> exact ⟨_, rfl, q.symm⟩
      obtain ⟨j, hj, rfl⟩ := hi
      rw [hj] at rp
      simp only [Rep] at rp
      exact ⟨j, rp, k r nv1 M1 H1 _ q st1 s1 hd1⟩
theorem s_slc {x : Expr} {a lo hi : E} {l h : Option Expr} {p2 pos : Pos} (ha : SO C W Φ shs x a) (hl : PartS C W Φ shs l lo) (hh : PartS C W Φ shs h hi) : SndE C W (.Subscript x (.Slice l h none p2) pos) (evE Φ shs (.slc a lo hi)) := by
  intro M H σ nv Q st hd
  refine tE.by (fun X hX => pe_slice (r := rSl C.K) (by rw [← hX.K]; exact SlR.or GT.sl_tupN (SlR.or sl_list sl_str)) (PEo hX x) (po_of hX l) (po_of hX h)) ?_
  rw [evE] at hd
  refine SndO.then ha st hd fun o nv1 v M1 H1 e1 st1 ov s1 hd1 => ?_
  refine part_then hl st1 hd1 (fun r nv2 M2 H2 e hz => ?_) fun r nv2 M2 H2 i e st2 s2 hd2 => ?_
  · rw [e] at hz; exact hz
  · rw [e] at hd2
    refine part_then hh st2 hd2 (fun r2 nv3 M3 H3 e2 hz => ?_) fun r2 nv3 M3 H3 j e2 st3 s3 hd3 => ?_
    · rw [e2] at hz; exact hz
    · rw [e2] at hd3
      have ov2 := OpdR.mono s3.mm (OpdR.mono s2.mm ov)
      have hd3 : DoneE C W M3 H3 σ nv3 (Rs.of ((look nv3 o).bind fun d => pSlc d i j) nv3) _ := hd3
      cases l : look nv3 o with
      | none => rw [l] at hd3; exact hd3.elim
      | some d =>
        rw [l] at hd3
        have hd4 : DoneE C W M3 H3 σ nv3 (Rs.of (pSlc d i j) nv3) _ := hd3
        cases q : pSlc d i j with
        | none => rw [q] at hd4; exact hd4.elim
        | some res =>
          rw [q] at hd4
          exact ok_slc st3.ext (look_ok st3 ov2 l) q fun v' M' H' p' h' => prim_done hd4 st3 p' h'
end
end G
namespace G
open PySem PySem.Spec PyProof.Rows L2
variable [Tb]
section
variable {C : Cfg} {W : WX} {M H M1 H1 : Hp} {σ σ' : L2.St} {nv nv1 : Nv} {Φ : Fn} {shs : Nat → Nat → Shape} {K : PySem.W.Frag}
/-! ### displays with starred elements -/
theorem Reps.app {M : Hp} : ∀ {ds es : List D} {vs us : List V}, Reps K M ds vs → Reps K M es us → Reps K M (ds ++ es) (vs ++ us)
  | [], es, vs, us, h, h2 => by
    simp only [Reps] at h
    subst h
    exact h2
  | d :: ds, es, vs, us, h, h2 => by
    simp only [Reps] at h
    obtain ⟨v, vs', rfl, e2, e3⟩ := h
    show Reps K M (d :: (ds ++ es)) (v :: (vs' ++ us))
    simp only [Reps]
    exact ⟨v, _, rfl, e2, Reps.app e3 h2⟩
theorem Reps.up {M M' : Hp} (e : Same M M') : ∀ {ds : List D} {vs : List V}, Reps K M ds vs → Reps K M' ds vs
  | [], vs, h => by simpa only [Reps] using h
  | d :: ds, vs, h => by
    simp only [Reps] at h ⊢
    obtain ⟨v, vs', rfl, e2, e3⟩ := h
    exact ⟨v, vs', rfl, Rep.mono e e2, Reps.up e e3⟩
end
end G
namespace G
open PySem PySem.Spec PyProof.Rows L2
variable [Tb]
open AutoSeq1 (wpAny_loadPart')
theorem enumNewT (q : Addr) (xs : Array Value) (n : Nat) (dd : Option Addr) (ss : Array (Option Value)) :
    Meets (Builtin.«enumerate.__new__» ⟨[.type "enumerate", .ref q], []⟩) (fun _ R s => s.heap.get? q = some { cls := .type "tuple", dict := dd, data := .seq xs n, slots := ss } ∧
      R (.ok (.ret (.ref (s.heap.push { cls := .type "tuple_iterator", data := .fields #[.ref q, .int 0 0] }).objs.size)))
        { s with heap := (s.heap.push { cls := .type "tuple_iterator", data := .fields #[.ref q, .int 0 0] }).push { cls := .type "enumerate", data := .fields #[.none, .bool false, .ref s.heap.objs.size, rawInt 0, .none, .none] } }) := by
  refine .of_wp fun prog w A R s h => ?_
  obtain ⟨hp, g, d, tk, os⟩ := s
  obtain ⟨hl, h⟩ := h
  have hs := sub_enumerate
  have hT : Heap.IsTuple (Shared.heap ⟨hp, g, d, tk, os⟩) q xs := ⟨_, hl, rfl, n, rfl⟩
  wp_walk using wpAny_loadPart' hl
  refine wpAny_stack_any fun st => wpAny_pure ?_
  split
  · rename_i c _ _ _ _ _
    cases (c == Value.type "enumerate") <;> (wp_walk using wpAny_loadPart' hl, wpAny_pyIter_tuple hT) <;> exact ⟨_, rfl, h⟩
  · (wp_walk using wpAny_loadPart' hl, wpAny_pyIter_tuple hT)
    exact ⟨_, rfl, h⟩
section
variable {prog : Program} {w : World} {A : Around} {E : Value → Shared → Prop} {s : Shared}
theorem enumCallT {q : Addr} {xs : Array Value} {Q : Value → Shared → Prop} (hT : s.heap.IsTuple q xs)
    (k : ∀ hh, IsEnum hh (s.heap.objs.size + 1) s.heap.objs.size 0 .none → hh.IsTupleIter s.heap.objs.size q 0 → (∀ b o, s.heap.get? b = some o → hh.get? b = some o) → Q (.ref (s.heap.objs.size + 1)) { s with heap := hh }) :
    wpAny (model prog w) A (call (.type "enumerate") [.ref q]) Q E s := by
  obtain ⟨⟨c, dd, dt, ss⟩, hl, hc, n, hd⟩ := hT
  have hc : c = .type "tuple" := hc
  have hd : dt = .seq xs n := hd
  subst hc hd
  refine callType_new F.called_enumerate (by decide) (F.typeCall_enumerate_1 _) (F.newCall_enumerate_1 _) (fun obj => F.args_object_init_2 obj _) F.entry_enumerate_new (enumNewT q xs n dd ss) ⟨hl, ?_⟩
  have sz : (s.heap.push { cls := .type "tuple_iterator", data := .fields #[.ref q, .int 0 0] }).objs.size = s.heap.objs.size + 1 := Heap.size_push ..
  show _ ∧ _
  rw [sz]
  have en := Heap.get?_push_size (s.heap.push { cls := .type "tuple_iterator", data := .fields #[.ref q, .int 0 0] }) (o := { cls := .type "enumerate", data := .fields #[.none, .bool false, .ref s.heap.objs.size, rawInt 0, .none, .none] }) rfl
  rw [sz] at en
  exact ⟨⟨_, en, rfl⟩, k _ en ⟨_, Heap.get?_push_of_some _ (Heap.get?_push_size _ rfl), rfl, rfl⟩ fun b o x => Heap.get?_push_of_some _ (Heap.get?_push_of_some _ x)⟩
end
/-- the tuple at a, each item in a new pair -/
def IteT (K : PySem.W.Frag) (a : Addr) : It where
  go := fun i H => ∃ (xs : List V) (x : V), SqT K H a xs ∧ xs[i]? = some x
  yld := fun i H v H' => ∃ p o x, v = .ref p ∧ H p = none ∧ GT.NT o ∧ H' = upd H p (.frz o (.tup [.int (i : Nat), x])) ∧ ∀ xs, SqT K H a xs → xs[i]? = some x
  stop := fun i H => ∃ xs : List V, SqT K H a xs ∧ xs.length = i
theorem turnEnumT {P : Program} {w : World} {K : PySem.W.Frag} {elts : List Expr} {kk : Nat} {tpos : Pos} (a e it : Addr) (nai : a ≠ it) :
    Turn P w K (.Tuple elts kk tpos) (IteT K a) [e, it] e (fun i h => (∃ old, IsEnum h e it ((i : Nat) : Int) old) ∧ h.IsTupleIter it a i ∧ e ≠ it ∧ e ≠ a) where
  mem := by simp
  obj := fun i h st b hb => by
    obtain ⟨⟨old, he⟩, ⟨o, ho, hc, hd⟩, _⟩ := st
    rcases (by simpa using hb : b = e ∨ b = it) with rfl | rfl
    · exact ⟨_, he, fun v q => nomatch q⟩
    · exact ⟨o, ho, fun v q => by rw [hd] at q; cases q⟩
  keep := fun i h h' ⟨⟨old, he⟩, hi, hne⟩ k => ⟨⟨old, k e (by simp) _ he⟩, hi.at fun o q => k it (by simp) o q, hne⟩
  item := by
    intro X hP hw hK hc i pins s σ H E I hf st hg
    subst hP hw hK
    obtain ⟨⟨old, he⟩, hit, hne, hea⟩ := st
    obtain ⟨xs, x, hq, hx⟩ := hg
    obtain ⟨its, rv, p, hz⟩ := I.tuple hq
    obtain ⟨u, hu, ru⟩ := rv.get hx
    have hel : e < s.heap.objs.size := Heap.lt_size he
    have hil : it < s.heap.objs.size := Heap.lt_size hit.choose_spec.1
    have hi : i < its.toArray.size := by
      have := (List.getElem?_eq_some_iff.mp hu).1
      simpa using this
    refine wpAny_pyNext_enum_itemD (Draws.tuple (prog := X.prog) (w := X.w) (A := X.A.in1) (I.ok.hd hc) it a nai its.toArray) he ⟨hit, p⟩ hi hne (by simp [hne, hea]) fun y h' tk hy ho hst hT hsz hk => ?_
    obtain rfl : u = y := by
      have h1 : its.toArray[i]? = some u := by simpa using hu
      rw [h1] at hy
      exact Option.some.inj hy
    refine ⟨_, rfl, wpAny_letOwnedTupleGo_enum (s := { s with heap := h', toks := tk + 1 }) ho fun h'' he' sb => ?_⟩
    have t2 : h''.get? s.heap.objs.size = some { cls := .type "tuple", data := .seq #[.int i tk, u] } := (sb.2 _ (Nat.ne_of_gt hel)).trans hT
    have fresh := GT.newOk (X := X) (H := H) (xs := [.int (i : Nat), x]) (its := [.int i tk, u]) t2 ⟨rfl, rfl⟩ rfl (by decide : 2 ≤ sizeLine) (.cons ⟨_, rfl⟩ (.cons ru .nil))
    have I1 := I.turnedNew (t' := tk + 1) (h' := h'') (ch := [e, it]) (fun b ob hb q => (sb.2 b fun z => hb (by simp [z])).trans (hk b ob (fun z => hb (by simp [z])) (fun z => hb (by simp [z])) q)) hf (Nat.le_refl _) fresh
    have both : ∀ b ∈ [e, it], b < s.heap.objs.size := fun b hb => by
      rcases (by simpa using hb : b = e ∨ b = it) with rfl | rfl
      · exact hel
      · exact hil
    refine ⟨.ref s.heap.objs.size, _, I1, rfl, ⟨_, _, x, rfl, I.hok.fresh (Nat.le_refl _), ⟨rfl, rfl⟩, rfl, fun ys hy => ?_⟩, ⟨⟨u, ?_⟩, ?_, hne, hea⟩, fun b hb => ?_⟩
    · rw [I.tuple_inj hy hq]; exact hx
    · rw [show ((i + 1 : Nat) : Int) = (i : Int) + 1 by omega]; exact he'
    · exact hst.1.at fun o q => (sb.2 it (Ne.symm hne)).trans q
    · rw [upd_ne (Nat.ne_of_lt (both b hb))]
      exact (hf b hb).1
  done := by
    intro X hP hw hK hc i pins s σ H E I hf st hg
    subst hP hw hK
    obtain ⟨⟨old, he⟩, hit, hne, hea⟩ := st
    obtain ⟨xs, hq, hx⟩ := hg
    obtain ⟨its, rv, p, hz⟩ := I.tuple hq
    have hsz : i = its.toArray.size := by
      have := rv.length
      simp
      omega
    subst hsz
    obtain ⟨f0, f1, f2, f3, f4, f5⟩ := hf it (by simp)
    exact wpAny_pyNext_enum_endD (Draws.tuple (prog := X.prog) (w := X.w) (A := X.A.in1) (I.ok.hd hc) it a nai its.toArray) he ⟨hit, p⟩ fun h' eb => ⟨rfl, I.turned (t' := s.toks) (fun b o hb q => eb b o hb q) f0 f1 f3 f4 f5⟩
  self := fun A i s Q E st h => st.1.elim fun _ he => wpAny_pyIter_enum he h
def iEnumT (K : PySem.W.Frag) (ta : TA) : TI := fun σ H R => ta σ H fun vs H1 => ∃ a xs, vs = [.ref a] ∧ ((SqL K H1 a xs ∧ R (GT.IteN K a) H1) ∨ (SqT K H1 a xs ∧ R (IteT K a) H1))
theorem pi_enumT {X : Cx} {e : Expr} {ta : TA} {p pos tpos : Pos} {elts : List Expr} {kk : Nat} (hg : Gl X "enumerate") (hm : X.mg "enumerate" = none) (ha : PA X [e] ta) (hs : starEach [e] X.env = [(false, eval e X.env)]) :
    PI X (.Tuple elts kk tpos) (.Call (.Name "enumerate" p) [e] [] pos) (iEnumT X.K ta) := by
  refine ⟨fun pins s σ H R I h => ?_⟩
  refine Call_ (ld_blt I hg hm boot_enumerate (PyProof.Rows.callWith_type1 (thn (ha.run pos pins s σ H _ I h) fun us s1 ⟨vs, H1, I1, r1, q1⟩ => ?_) hs rfl))
  obtain ⟨a, xs, ex, q⟩ := q1
  subst ex
  cases r1 with
  | cons r rr =>
    cases rr
    cases r
    have low : ∀ b ∈ [s1.heap.objs.size + 1, s1.heap.objs.size], s1.heap.objs.size ≤ b := fun b hb => by
      rcases (by simpa using hb : b = s1.heap.objs.size + 1 ∨ b = s1.heap.objs.size) with rfl | rfl <;> omega
    rcases q with ⟨hq, q⟩ | ⟨hq, q⟩
    · obtain ⟨its, rv, p', hz⟩ := I1.list hq
      refine call_enumerate_list p'.isList fun h' he hit hsz hk => wpAny_pyIter_enum he ?_
      exact ⟨s1.heap.objs.size + 1, [s1.heap.objs.size + 1, s1.heap.objs.size], _, _, H1, rfl, I1.kept (t' := s1.toks) hk, GT.turn_enumN a (s1.heap.objs.size + 1) s1.heap.objs.size, ⟨⟨.none, he⟩, hit, Nat.succ_ne_self _⟩, fun b hb => I1.fpOk (low b hb) (I1.hok.fresh (low b hb)), q⟩
    · obtain ⟨its, rv, p', hz⟩ := I1.tuple hq
      have hal : a < s1.heap.objs.size := by
        obtain ⟨o, ho, _⟩ := p'
        exact Heap.lt_size ho
      refine enumCallT (xs := its.toArray) p' fun h' he hit hk => wpAny_pyIter_enum he ?_
      exact ⟨s1.heap.objs.size + 1, [s1.heap.objs.size + 1, s1.heap.objs.size], _, _, H1, rfl, I1.kept (t' := s1.toks) hk, turnEnumT a (s1.heap.objs.size + 1) s1.heap.objs.size (Nat.ne_of_lt hal), ⟨⟨.none, he⟩, hit, Nat.succ_ne_self _, (Nat.ne_of_lt (Nat.lt_succ_of_lt hal)).symm⟩, fun b hb => I1.fpOk (low b hb) (I1.hok.fresh (low b hb)), q⟩
end G
namespace G
open PySem PySem.Spec PyProof.Rows L2
variable [Tb]
section
variable {C : Cfg} {W : WX} {M H M1 H1 : Hp} {σ σ' : L2.St} {nv nv1 : Nv} {Φ : Fn} {shs : Nat → Nat → Shape} {K : PySem.W.Frag}
theorem seq_rep {M : Hp} {d : D} {v : V} {s : Bool} {xs : List D} (r : Rep K M d v) (e : seqOf d = some (s, xs)) : ∃ a vs, v = .ref a ∧ Reps K M xs vs ∧ ((s = true ∧ GT.SqN K M a vs) ∨ (s = false ∧ SqL K M a vs)) := by
  cases d with
  | tup ds =>
    cases e
    simp only [Rep] at r
    obtain ⟨a, vs, rfl, h1, h2⟩ := r
    exact ⟨a, vs, rfl, h2, .inl ⟨rfl, h1⟩⟩
  | lst ds =>
    cases e
    simp only [Rep] at r
    obtain ⟨a, vs, rfl, h1, h2⟩ := r
    exact ⟨a, vs, rfl, h2, .inr ⟨rfl, SqL.of h1⟩⟩
  | scr ns =>
    cases e
    simp only [Rep] at r
    obtain ⟨a, rfl, h1⟩ := r
    exact ⟨a, _, rfl, Reps.of_ints, .inr ⟨rfl, h1⟩⟩
  | non => cases e
  | bl b => cases e
  | int i => cases e
  | str z => cases e
  | dct ks ds => cases e
theorem pair_ok {M H : Hp} {d e : D} {v u : V} {p : Addr} (sm : Same M H) (r : Rep K M d v) (q : Rep K M e u) {o : Obj} (no : GT.NT o) (np : H p = none) : ∃ M', Prim M H M' (upd H p (.frz o (.tup [v, u]))) ∧ Rep K M' (.tup [d, e]) (.ref p) :=
  PR.tup (K := K) (Q := fun w H2 => ∃ M', Prim M H M' H2 ∧ Rep K M' (.tup [d, e]) w) sm (fun w M' H' p h => ⟨M', p, h⟩) (by simp only [Reps]; exact ⟨v, _, rfl, r, u, _, rfl, q, rfl⟩) p o np no
theorem enum_get {xs : List D} {i : Nat} {d : D} (h : (xs.zipIdx.map fun p => D.tup [.int (p.2 : Nat), p.1])[i]? = some d) : ∃ x, xs[i]? = some x ∧ d = .tup [.int (i : Nat), x] := by
  rw [List.getElem?_map, List.getElem?_zipIdx] at h
  cases q : xs[i]? with
  | none => rw [q] at h; cases h
  | some x => rw [q] at h; simp at h; exact ⟨x, rfl, h.symm⟩
theorem jok_enum {M : Hp} {a : Addr} {vs : List V} {xs : List D} (h : SqL K M a vs) (r : Reps K M xs vs) : JOk K M (GT.IteN K a) (xs.zipIdx.map fun p => D.tup [.int (p.2 : Nat), p.1]) := by
  refine ⟨fun M' H s1 s2 => ⟨vs, (s1.trans s2).seq h, by simp [r.length]⟩, fun M' H i d s1 s2 hd => ?_⟩
  obtain ⟨x, hx, rfl⟩ := enum_get hd
  obtain ⟨v, h1, h2⟩ := r.get hx
  refine ⟨⟨vs, v, (s1.trans s2).seq h, h1⟩, fun w H' y => ?_⟩
  obtain ⟨p, o, u, rfl, np, no, rfl, hu⟩ := y
  have := hu vs ((s1.trans s2).seq h)
  rw [h1] at this
  cases this
  exact pair_ok s2 (by simp [Rep]) (Rep.mono s1 h2) no np
theorem jok_enumT {M : Hp} {a : Addr} {vs : List V} {xs : List D} (h : GT.SqN K M a vs) (r : Reps K M xs vs) : JOk K M (IteT K a) (xs.zipIdx.map fun p => D.tup [.int (p.2 : Nat), p.1]) := by
  refine ⟨fun M' H s1 s2 => ⟨vs, SqT.up (s1.trans s2) h, by simp [r.length]⟩, fun M' H i d s1 s2 hd => ?_⟩
  obtain ⟨x, hx, rfl⟩ := enum_get hd
  obtain ⟨v, h1, h2⟩ := r.get hx
  refine ⟨⟨vs, v, SqT.up (s1.trans s2) h, h1⟩, fun w H' y => ?_⟩
  obtain ⟨p, o, u, rfl, np, no, rfl, hu⟩ := y
  have := hu vs (SqT.up (s1.trans s2) h)
  rw [h1] at this
  cases this
  exact pair_ok s2 (by simp [Rep]) (Rep.mono s1 h2) no np
theorem sndI_enum {elts : List Expr} {kk : Nat} {tpos p pos : Pos} {x : Expr} {e : E} (hg : isGl C.sc "enumerate" = true) (hm : C.mg "enumerate" = none) (ns : noStar x = true) (h : SndA C W [x] (evOs Φ shs [e])) (hb : isBrw e = false) :
    SndI C W (.Tuple elts kk tpos) (.Call (.Name "enumerate" p) [x] [] pos) (itf Φ shs .enum [e]) := by
  intro M H σ nv R st hd
  refine tI.by (t := iEnumT C.K (tA C W [x])) (fun X hX => by rw [← hX.K]; exact pi_enumT (gl_of hX hg) (by rw [hX.mg]; exact hm) (PAo hX [x]) (by rw [star_cons ns]; rfl)) ?_
  unfold itf at hd
  refine h M H σ nv _ st ?_
  rw [evOs_one hb] at hd ⊢
  cases ev : evE Φ shs e nv with
  | ok r nv1 =>
    rw [ev] at hd
    intro M1 H1 s1 st1 vs hv
    have hd := DoneX.later hd s1
    simp only [Rs.bind, items] at hd
    obtain ⟨v, vs', rfl, h1, h2⟩ := hv
    have h2 : vs' = [] := h2
    subst h2
    have h1 : Rep C.K M1 r.frz v := h1
    cases q : seqOf r.frz with
    | none => rw [q] at hd; exact hd.elim
    | some sx =>
      obtain ⟨s, xs⟩ := sx
      rw [q] at hd
      obtain ⟨a, ws, rfl, k1, k2⟩ := seq_rep h1 q
      refine ⟨a, ws, rfl, ?_⟩
      rcases k2 with ⟨rfl, k2⟩ | ⟨rfl, k2⟩
      · exact .inr ⟨SqT.up st1.ext k2, hd M1 H1 (Step.refl _ _ _) st1 _ (jok_enumT k2 k1)⟩
      · exact .inl ⟨st1.ext.seq k2, hd M1 H1 (Step.refl _ _ _) st1 _ (jok_enum k2 k1)⟩
  | exc c as nv1 => rw [ev] at hd; exact hd
  | stuck => rw [ev] at hd; exact hd
/-! ### reversed -/
theorem rev_get {xs : List D} {vs : List V} {M : Hp} {i : Nat} {d : D} (r : Reps K M xs vs) (h : xs.reverse[i]? = some d) : i < vs.length ∧ ∃ v, vs[vs.length - 1 - i]? = some v ∧ Rep K M d v := by
  have hi : i < xs.length := by simpa using (List.getElem?_eq_some_iff.mp h).1
  rw [List.getElem?_reverse hi, r.length] at h
  exact ⟨by rw [← r.length]; exact hi, r.get h⟩
theorem jok_rev {M : Hp} {a : Addr} {vs : List V} {xs : List D} (h : SqL K M a vs) (r : Reps K M xs vs) : JOk K M (Itv K a vs.length) xs.reverse := by
  refine ⟨fun M' H s1 s2 => (by simp [r.length] : vs.length ≤ xs.reverse.length), fun M' H i d s1 s2 hd => ?_⟩
  obtain ⟨hi, v, h1, h2⟩ := rev_get r hd
  refine ⟨⟨hi, vs, v, (s1.trans s2).seq h, h1⟩, fun w H' y => ?_⟩
  obtain ⟨rfl, y⟩ := y
  have := y vs ((s1.trans s2).seq h)
  rw [h1] at this
  cases this
  exact ⟨M', Prim.refl s2, Rep.mono s1 h2⟩
theorem jok_revT {M : Hp} {a : Addr} {vs : List V} {xs : List D} (h : GT.SqN K M a vs) (r : Reps K M xs vs) : JOk K M (RT.ItvT K a vs.length) xs.reverse := by
  refine ⟨fun M' H s1 s2 => (by simp [r.length] : vs.length ≤ xs.reverse.length), fun M' H i d s1 s2 hd => ?_⟩
  obtain ⟨hi, v, h1, h2⟩ := rev_get r hd
  refine ⟨⟨hi, vs, v, SqT.up (s1.trans s2) h, h1⟩, fun w H' y => ?_⟩
  obtain ⟨rfl, y⟩ := y
  have := y vs (SqT.up (s1.trans s2) h)
  rw [h1] at this
  cases this
  exact ⟨M', Prim.refl s2, Rep.mono s1 h2⟩
theorem sndI_rev {tg x : Expr} {e : E} {p pos : Pos} (hg : isGl C.sc "reversed" = true) (hm : C.mg "reversed" = none) (ns : noStar x = true) (h : SndE C W x (evE Φ shs e)) (hb : isBrw e = false) :
    SndI C W tg (.Call (.Name "reversed" p) [x] [] pos) (itf Φ shs .rev [e]) := by
  intro M H σ nv R st hd
  refine tI.by (t := RT.iRevA C.K (tE C W x)) (fun X hX => by rw [← hX.K]; exact RT.pi_revA (gl_of hX hg) (by rw [hX.mg]; exact hm) (PEo hX x) (star_cons ns _ _)) ?_
  unfold itf at hd
  rw [evOs_one hb] at hd
  have hd : DoneX C W M H σ nv ((evE Φ shs e nv).bind fun r nv1 => match items .rev [.inl r.frz] with | none => .stuck | some xs => .ok xs nv1) (fun xs nv' M' H' => ∀ J, JOk C.K M' J xs → R J H') := by
    cases ev : evE Φ shs e nv with
    | ok r nv1 => rw [ev] at hd; exact hd
    | exc c as nv1 => rw [ev] at hd; exact hd
    | stuck => rw [ev] at hd; exact hd
  refine SndE.then h st hd fun r nv1 v M1 H1 e1 st1 rp s1 hd1 => ?_
  simp only [items] at hd1
  cases q : seqOf r.frz with
  | none => rw [q] at hd1; exact hd1.elim
  | some sx =>
    obtain ⟨s, xs⟩ := sx
    rw [q] at hd1
    obtain ⟨a, ws, rfl, k1, k2⟩ := seq_rep rp q
    refine ⟨a, ws, rfl, ?_⟩
    rcases k2 with ⟨rfl, k2⟩ | ⟨rfl, k2⟩
    · exact .inr ⟨SqT.up st1.ext k2, hd1 M1 H1 (Step.refl _ _ _) st1 _ (jok_revT k2 k1)⟩
    · exact .inl ⟨st1.ext.seq k2, hd1 M1 H1 (Step.refl _ _ _) st1 _ (jok_rev k2 k1)⟩
end
end G
set_option maxHeartbeats 1000000
namespace GZ
open PySem PySem.Spec PyProof.Rows L2
open PySem.Sem (wp)
/-! ### zip of any two of list and tuple -/
/-- an iterator over a tuple (true) or a list -/
def It2 (t : Bool) (h : Heap) (it l : Addr) (k : Nat) : Prop := match t with
  | true => h.IsTupleIter it l k
  | false => h.IsListIter it l k
def Sq2 (t : Bool) (h : Heap) (l : Addr) (xs : Array Value) : Prop := match t with
  | true => h.IsTuple l xs
  | false => h.IsList l xs
theorem It2.ext {t : Bool} {h h' : Heap} {a b l : Addr} {k : Nat} (x : It2 t h a l k) (e : Heap.ExtBut b h h') (n : a ≠ b) : It2 t h' a l k := by
  cases t
  · exact Heap.IsListIter.extBut x e n
  · exact Heap.IsTupleIter.extBut x e n
theorem Sq2.ext {t : Bool} {h h' : Heap} {a b : Addr} {xs : Array Value} (x : Sq2 t h a xs) (e : Heap.ExtBut b h h') (n : a ≠ b) : Sq2 t h' a xs := by
  cases t
  · exact Heap.IsList.extBut x e n
  · exact Heap.IsTuple.extBut x e n
theorem It2.move {t : Bool} {h h' : Heap} {a l : Addr} {k : Nat} (x : It2 t h a l k) (e : ∀ o, h.get? a = some o → h'.get? a = some o) : It2 t h' a l k := by
  cases t
  · exact Heap.IsListIter.at x e
  · exact Heap.IsTupleIter.at x e
theorem It2.obj {t : Bool} {h : Heap} {a l : Addr} {k : Nat} (x : It2 t h a l k) : ∃ o, h.get? a = some o ∧ ∀ v, o.data ≠ .cell v := by
  cases t
  · obtain ⟨o, e, _, d⟩ := x
    exact ⟨o, e, fun v q => by rw [d] at q; cases q⟩
  · obtain ⟨o, e, _, d⟩ := x
    exact ⟨o, e, fun v q => by rw [d] at q; cases q⟩
section
variable {prog : Program} {w : World} {A : Around} {E : Value → Shared → Prop} {s : Shared}
theorem nx2 {t : Bool} {it l : Addr} {k : Nat} {xs : Array Value} {x : Value} {Q : Value → Shared → Prop} (hi : It2 t s.heap it l k) (hl : Sq2 t s.heap l xs) (hx : xs[k]? = some x)
    (q : ∀ h', It2 t h' it l (k + 1) → Heap.SameBut it s.heap h' → Q x { s with heap := h' }) : wpAny (model prog w) A (Builtin.SmallTypes.nextOf (.ref it)) Q E s := by
  cases t
  · exact wpAny_nextOf_list_item hi hl hx q
  · exact RZ.nextOf_tuple_item hi hl hx q
theorem nx2_end {t : Bool} {it l : Addr} {k : Nat} {xs : Array Value} {Q : Value → Shared → Prop} (hh : A.handled = none) (hi : It2 t s.heap it l k) (hl : Sq2 t s.heap l xs) (hx : xs[k]? = none)
    (q : ∀ h' e, Heap.ExtBut it s.heap h' → (∃ o, h'.get? e = some o ∧ o.cls = .type "StopIteration") → E (.ref e) { s with heap := h' }) : wpAny (model prog w) A (Builtin.SmallTypes.nextOf (.ref it)) Q E s := by
  cases t
  · exact wpAny_nextOf_list_end hh hi hl hx q
  · exact RZ.nextOf_tuple_end hh hi hl hx q
/-- what a turn of zip leaves alone -/
def Left4 (z p i j : Addr) (h h' : Heap) : Prop := ∀ c o, c ≠ z → c ≠ p → c ≠ i → c ≠ j → h.get? c = some o → h'.get? c = some o
/-- a zip at z, its iterators -/
structure Zp (t u : Bool) (h : Heap) (z TI p i j a b : Addr) (m n : Nat) : Prop where
  zz : IsZip h z TI p .none
  ti : IsPair h TI (.ref i) (.ref j)
  tp : ∃ x y, IsPair h p x y
  it : It2 t h i a m
  jt : It2 u h j b n
theorem zp_item {t u : Bool} {z TI p i j a b : Addr} {m n : Nat} {xs ys : Array Value} {x y : Value} {Q : Value → Shared → Prop} (D : ZipApart z TI p i j a b) (Z : Zp t u s.heap z TI p i j a b m n)
    (ha : Sq2 t s.heap a xs) (hb : Sq2 u s.heap b ys) (hx : xs[m]? = some x) (hy : ys[n]? = some y)
    (q : ∀ h', IsZip h' z TI p (rawInt s.heap.objs.size) → IsPair h' p x y → It2 t h' i a (m + 1) → It2 u h' j b (n + 1) → IsPair h' s.heap.objs.size x y → h'.objs.size = s.heap.objs.size + 1 → Left4 z p i j s.heap h' → Q (.ref s.heap.objs.size) { s with heap := h' }) :
    wpAny (model prog w) A (Builtin.«zip.__next__» ⟨[.ref z], []⟩) (fun f s' => ∃ v, f = .done (.ret v) ∧ Q v s') E s := by
  obtain ⟨zz, ti, ⟨x0, y0, tp⟩, it, jt⟩ := Z
  show wpAny _ _ (field (.ref z) 2 >>= _) _ _ _
  refine wpAny_bind (wpAny_field zz rfl (x := .bool false) rfl ?_); show wpAny _ _ (field (.ref z) 3 >>= _) _ _ _
  refine wpAny_bind (wpAny_field zz rfl (x := .ref TI) rfl ?_); refine wpAny_bind (wpAny_seqItems ti rfl ?_)
  show wpAny _ _ (Builtin.SmallTypes.ownedTupleIsFree (.ref z) >>= _) _ _ _; refine wpAny_bind ?_
  unfold Builtin.SmallTypes.ownedTupleIsFree; refine wpAny_bind (wpAny_field zz rfl (x := .none) rfl (wpAny_pure ?_))
  simp only [if_true]; refine wpAny_bind (wpAny_rule ?_)
  refine wpAny_bind (wpAny_field zz rfl (x := .ref p) rfl ?_); refine wpAny_bind (wpAny_setField_rec zz (by simp) fun g1 z1 e1 => ?_)
  replace z1 : IsZip g1 z TI p .ellipsis := z1
  refine wpAny_bind ?_; simp only [List.zipIdx_cons, List.zipIdx_nil, List.forIn_cons, List.forIn_nil]
  refine wpAny_bind (wpAny_bind (wpAny_onRaise ?_)); show wpAny _ _ (Builtin.SmallTypes.nextOf (.ref i) >>= _) _ _ _
  refine wpAny_bind (nx2 (it.ext e1.extBut D.i1z) (ha.ext e1.extBut D.l1z) hx fun g2 it2 e2 => wpAny_pure ?_)
  have p2 : IsPair g2 p x0 y0 := e2.extBut _ _ D.TOi1 (e1.extBut _ _ D.TOz tp)
  refine wpAny_bind (wpAny_seqItems p2 rfl ?_); refine wpAny_bind (wpAny_updateSeq_pair p2 fun g3 p3 e3 => ?_)
  replace p3 : IsPair g3 p x y0 := p3
  refine wpAny_bind (wpAny_letGo (wpAny_pure ?_)); refine wpAny_bind (wpAny_bind (wpAny_onRaise ?_))
  show wpAny _ _ (Builtin.SmallTypes.nextOf (.ref j) >>= _) _ _ _
  refine wpAny_bind (nx2 (((jt.ext e1.extBut D.i2z).ext e2.extBut D.i12.symm).ext e3.extBut D.TOi2.symm) (((hb.ext e1.extBut D.l2z).ext e2.extBut D.l2i1).ext e3.extBut D.l2TO) hy fun g4 jt4 e4 => wpAny_pure ?_)
  have p4 : IsPair g4 p x y0 := e4.extBut _ _ D.TOi2 p3
  refine wpAny_bind (wpAny_seqItems p4 rfl ?_); refine wpAny_bind (wpAny_updateSeq_pair p4 fun g5 p5 e5 => ?_)
  replace p5 : IsPair g5 p x y := p5
  refine wpAny_bind (wpAny_letGo (wpAny_pure (wpAny_pure ?_))); refine wpAny_bind (wpAny_seqItems p5 rfl ?_)
  refine wpAny_bind (wpAny_newTuple ?_)
  have sz : g5.objs.size = s.heap.objs.size := by rw [e5.1, e4.1, e3.1, e2.1, e1.1]
  have z5 : IsZip g5 z TI p .ellipsis := e5.extBut _ _ D.TOz.symm (e4.extBut _ _ D.i2z.symm (e3.extBut _ _ D.TOz.symm (e2.extBut _ _ D.i1z.symm z1)))
  have l5 : Left4 z p i j s.heap g5 := fun c o c1 c2 c3 c4 e => e5.extBut _ _ c2 (e4.extBut _ _ c4 (e3.extBut _ _ c2 (e2.extBut _ _ c3 (e1.extBut _ _ c1 e))))
  have it5 : It2 t g5 i a (m + 1) := ((it2.ext e3.extBut D.TOi1.symm).ext e4.extBut D.i12).ext e5.extBut D.TOi1.symm
  have jt5 : It2 u g5 j b (n + 1) := jt4.ext e5.extBut D.TOi2.symm
  have zlt : z < g5.objs.size := Heap.lt_size z5
  show wpAny _ _ (Builtin.SmallTypes.ownedTupleHandOut (.ref z) (.ref g5.objs.size) >>= _) _ _ _
  refine wpAny_bind ?_; unfold Builtin.SmallTypes.ownedTupleHandOut
  have z6 : IsZip (g5.push { cls := .type "tuple", data := .seq #[x, y] }) z TI p .ellipsis := Heap.get?_push_of_some _ z5
  refine wpAny_bind (wpAny_setField_rec z6 (by simp) fun g7 z7 e7 => ?_)
  replace z7 : IsZip g7 z TI p (rawInt g5.objs.size) := z7
  refine wpAny_setField_rec z7 (by simp) fun g8 z8 e8 => ?_
  replace z8 : IsZip g8 z TI p (rawInt g5.objs.size) := z8
  have up : ∀ c o, c ≠ z → g5.get? c = some o → g8.get? c = some o := fun c o c1 e => e8.extBut _ _ c1 (e7.extBut _ _ c1 (Heap.get?_push_of_some _ e))
  have T8 : IsPair g8 g5.objs.size x y := e8.extBut _ _ (Nat.ne_of_gt zlt) (e7.extBut _ _ (Nat.ne_of_gt zlt) (Heap.get?_push_size _ rfl))
  have s8 : g8.objs.size = g5.objs.size + 1 := by rw [e8.1, e7.1, Heap.size_push]
  rw [sz] at z8 T8 s8
  refine wpAny_pure ⟨_, rfl, ?_⟩; show Q (.ref g5.objs.size) _; rw [sz]
  exact q g8 z8 (up _ _ D.TOz p5) (it5.move fun o e => up _ o D.i1z e) (jt5.move fun o e => up _ o D.i2z e) T8 s8 fun c o c1 c2 c3 c4 e => up c o c1 (l5 c o c1 c2 c3 c4 e)
theorem zp_end {t u : Bool} {z TI p i j a b : Addr} {m n : Nat} {xs ys : Array Value} {Q : Fin → Shared → Prop} (hh : A.handled = none) (D : ZipApart z TI p i j a b) (Z : Zp t u s.heap z TI p i j a b m n)
    (ha : Sq2 t s.heap a xs) (hb : Sq2 u s.heap b ys) (hn : xs[m]? = none ∨ ys[n]? = none)
    (q : ∀ h' e, Left4 z p i j s.heap h' → (∃ o, h'.get? e = some o ∧ o.cls = .type "StopIteration") → E (.ref e) { s with heap := h' }) : wpAny (model prog w) A (Builtin.«zip.__next__» ⟨[.ref z], []⟩) Q E s := by
  obtain ⟨zz, ti, ⟨x0, y0, tp⟩, it, jt⟩ := Z
  show wpAny _ _ (field (.ref z) 2 >>= _) _ _ _
  refine wpAny_bind (wpAny_field zz rfl (x := .bool false) rfl ?_); show wpAny _ _ (field (.ref z) 3 >>= _) _ _ _
  refine wpAny_bind (wpAny_field zz rfl (x := .ref TI) rfl ?_); refine wpAny_bind (wpAny_seqItems ti rfl ?_)
  show wpAny _ _ (Builtin.SmallTypes.ownedTupleIsFree (.ref z) >>= _) _ _ _; refine wpAny_bind ?_
  unfold Builtin.SmallTypes.ownedTupleIsFree; refine wpAny_bind (wpAny_field zz rfl (x := .none) rfl (wpAny_pure ?_))
  simp only [if_true]; refine wpAny_bind (wpAny_rule ?_)
  refine wpAny_bind (wpAny_field zz rfl (x := .ref p) rfl ?_); refine wpAny_bind (wpAny_setField_rec zz (by simp) fun g1 z1 e1 => ?_)
  replace z1 : IsZip g1 z TI p .ellipsis := z1
  refine wpAny_bind ?_; simp only [List.zipIdx_cons, List.zipIdx_nil, List.forIn_cons, List.forIn_nil]
  refine wpAny_bind (wpAny_bind (wpAny_onRaise ?_)); show wpAny _ _ (Builtin.SmallTypes.nextOf (.ref i) >>= _) _ _ _
  cases hx : xs[m]? with
  | none =>
    refine wpAny_bind (nx2_end hh (it.ext e1.extBut D.i1z) (ha.ext e1.extBut D.l1z) hx fun g2 e e2 he => ?_)
    obtain ⟨oe, hoe, hce⟩ := he
    have z2 : IsZip g2 z TI p .ellipsis := e2 _ _ D.i1z.symm z1
    have ez : e ≠ z := fun x => by subst x; rw [z2] at hoe; cases hoe; simp at hce
    refine wpAny_setField_rec z2 (by simp) fun g3 _ e3 => q g3 e (fun c o c1 _ c3 _ x => e3.extBut _ _ c1 (e2 _ _ c3 (e1.extBut _ _ c1 x))) ⟨oe, e3.extBut _ _ ez hoe, hce⟩
  | some x =>
    have hy : ys[n]? = none := by rcases hn with h | h; rw [hx] at h; cases h; exact h
    refine wpAny_bind (nx2 (it.ext e1.extBut D.i1z) (ha.ext e1.extBut D.l1z) hx fun g2 it2 e2 => wpAny_pure ?_)
    have p2 : IsPair g2 p x0 y0 := e2.extBut _ _ D.TOi1 (e1.extBut _ _ D.TOz tp)
    refine wpAny_bind (wpAny_seqItems p2 rfl ?_); refine wpAny_bind (wpAny_updateSeq_pair p2 fun g3 p3 e3 => ?_)
    refine wpAny_bind (wpAny_letGo (wpAny_pure ?_)); refine wpAny_bind (wpAny_bind (wpAny_onRaise ?_))
    show wpAny _ _ (Builtin.SmallTypes.nextOf (.ref j) >>= _) _ _ _
    refine wpAny_bind (nx2_end hh (((jt.ext e1.extBut D.i2z).ext e2.extBut D.i12.symm).ext e3.extBut D.TOi2.symm) (((hb.ext e1.extBut D.l2z).ext e2.extBut D.l2i1).ext e3.extBut D.l2TO) hy fun g4 e e4 he => ?_)
    obtain ⟨oe, hoe, hce⟩ := he
    have z4 : IsZip g4 z TI p .ellipsis := e4 _ _ D.i2z.symm (e3.extBut _ _ D.TOz.symm (e2.extBut _ _ D.i1z.symm z1))
    have ez : e ≠ z := fun x => by subst x; rw [z4] at hoe; cases hoe; simp at hce
    refine wpAny_setField_rec z4 (by simp) fun g5 _ e5 => q g5 e (fun c o c1 c2 c3 c4 x => e5.extBut _ _ c1 (e4 _ _ c4 (e3.extBut _ _ c2 (e2.extBut _ _ c3 (e1.extBut _ _ c1 x))))) ⟨oe, e5.extBut _ _ ez hoe, hce⟩
theorem zp_next {t u : Bool} {z TI p i j a b : Addr} {m n : Nat} {xs ys : Array Value} {x y : Value} {Q : Option Value → Shared → Prop} (D : ZipApart z TI p i j a b) (Z : Zp t u s.heap z TI p i j a b m n)
    (ha : Sq2 t s.heap a xs) (hb : Sq2 u s.heap b ys) (hx : xs[m]? = some x) (hy : ys[n]? = some y)
    (q : ∀ h', IsZip h' z TI p (rawInt s.heap.objs.size) → IsPair h' p x y → It2 t h' i a (m + 1) → It2 u h' j b (n + 1) → IsPair h' s.heap.objs.size x y → h'.objs.size = s.heap.objs.size + 1 → Left4 z p i j s.heap h' → Q (some (.ref s.heap.objs.size)) { s with heap := h' }) : wpAny (model prog w) A (pyNext (.ref z)) Q E s := by
  have hT : s.TypeIs (.ref z) "zip" := ⟨_, Z.zz, rfl⟩
  unfold pyNext
  refine wpAny_bind (wpAny_attempt (wpAny_callSpecial?_slot (name := Str.ofString "__next__") hT F.slot_zip_next (wpAny_call_entry F.slot_zip_next hT F.entry_zip_next ?_ (F.args_zip_next_1 _))))
  exact zp_item D Z ha hb hx hy fun h' a1 a2 a3 a4 a5 a6 a7 => wpAny_pure (q h' a1 a2 a3 a4 a5 a6 a7)
theorem zp_last {t u : Bool} {z TI p i j a b : Addr} {m n : Nat} {xs ys : Array Value} {Q : Option Value → Shared → Prop} (hh : A.handled = none) (D : ZipApart z TI p i j a b) (Z : Zp t u s.heap z TI p i j a b m n)
    (ha : Sq2 t s.heap a xs) (hb : Sq2 u s.heap b ys) (hn : xs[m]? = none ∨ ys[n]? = none) (q : ∀ h', Left4 z p i j s.heap h' → Q none { s with heap := h' }) : wpAny (model prog w) A (pyNext (.ref z)) Q E s := by
  have hT : s.TypeIs (.ref z) "zip" := ⟨_, Z.zz, rfl⟩
  unfold pyNext
  refine wpAny_bind (wpAny_attempt (wpAny_callSpecial?_slot (name := Str.ofString "__next__") hT F.slot_zip_next (wpAny_call_entry F.slot_zip_next hT F.entry_zip_next (zp_end hh D Z ha hb hn fun h' e hk he => ?_) (F.args_zip_next_1 _))))
  obtain ⟨o, ho, hc⟩ := he
  exact wpAny_bind (wpAny_isInstance (T := "StopIteration") (b := true) ⟨o, ho, hc⟩ isSubtype_stop (wpAny_pure (q _ hk)))
end
def zN (t : Bool) : String := if t then "tuple_iterator" else "list_iterator"
abbrev zA (t : Bool) (h : Heap) (a : Addr) : Heap := h.push { cls := .type (zN t), data := .fields #[.ref a, .int 0 0] }
abbrev zB (t u : Bool) (h : Heap) (a b : Addr) : Heap := (zA t h a).push { cls := .type (zN u), data := .fields #[.ref b, .int 0 0] }
abbrev zC (t u : Bool) (h : Heap) (a b : Addr) : Heap := (zB t u h a b).push { cls := .type "tuple", data := .seq #[.ref h.objs.size, .ref (zA t h a).objs.size] }
abbrev zD (t u : Bool) (h : Heap) (a b : Addr) : Heap := (zC t u h a b).push { cls := .type "tuple", data := .seq #[.none, .none] }
abbrev zE (t u : Bool) (h : Heap) (a b : Addr) : Heap := (zD t u h a b).push { cls := .type "zip", data := .fields #[.none, .bool false, .bool false, .ref (zB t u h a b).objs.size, .ref (zC t u h a b).objs.size] }
theorem Sq2.push {t : Bool} {h : Heap} {a : Addr} {xs : Array Value} (x : Sq2 t h a xs) (o : Obj) : Sq2 t (h.push o) a xs := by
  cases t
  · exact Heap.IsList.push x o
  · exact Heap.IsTuple.push x o
theorem meets2 (t u : Bool) (a b : Addr) (xs ys : Array Value) :
    Meets (Builtin.«zip.__new__» ⟨[.type "zip", .ref a, .ref b], []⟩) (fun _ R s => Sq2 t s.heap a xs ∧ Sq2 u s.heap b ys ∧ R (.ok (.ret (.ref (zD t u s.heap a b).objs.size))) { s with heap := zE t u s.heap a b }) :=
  .of_wp fun prog w A R s h => by
    obtain ⟨hp, g, d, tk, os⟩ := s; obtain ⟨ha, hb, h⟩ := h
    have hsub := sub_zip
    cases t
    · have L1 : Heap.IsList (Shared.heap ⟨hp, g, d, tk, os⟩) a xs := ha
      cases u
      · have L2 : Heap.IsList (Shared.heap ⟨hp.push { cls := .type "list_iterator", data := .fields #[.ref a, .int 0 0] }, g, d, tk, os⟩) b ys := Heap.IsList.push hb _
        wp_walk using wpAny_pyIter_list L1, wpAny_pyIter_list L2
        exact ⟨_, rfl, h⟩
      · have L2 : Heap.IsTuple (Shared.heap ⟨hp.push { cls := .type "list_iterator", data := .fields #[.ref a, .int 0 0] }, g, d, tk, os⟩) b ys := Heap.IsTuple.push hb _
        wp_walk using wpAny_pyIter_list L1, wpAny_pyIter_tuple L2
        exact ⟨_, rfl, h⟩
    · have L1 : Heap.IsTuple (Shared.heap ⟨hp, g, d, tk, os⟩) a xs := ha
      cases u
      · have L2 : Heap.IsList (Shared.heap ⟨hp.push { cls := .type "tuple_iterator", data := .fields #[.ref a, .int 0 0] }, g, d, tk, os⟩) b ys := Heap.IsList.push hb _
        wp_walk using wpAny_pyIter_tuple L1, wpAny_pyIter_list L2
        exact ⟨_, rfl, h⟩
      · have L2 : Heap.IsTuple (Shared.heap ⟨hp.push { cls := .type "tuple_iterator", data := .fields #[.ref a, .int 0 0] }, g, d, tk, os⟩) b ys := Heap.IsTuple.push hb _
        wp_walk using wpAny_pyIter_tuple L1, wpAny_pyIter_tuple L2
        exact ⟨_, rfl, h⟩
section
variable {prog : Program} {w : World} {A : Around} {E : Value → Shared → Prop} {s : Shared}
theorem It2.new {t : Bool} {h : Heap} {i a : Addr} (e : h.get? i = some { cls := .type (zN t), data := .fields #[.ref a, .int 0 0] }) : It2 t h i a 0 := by
  cases t
  · exact ⟨_, e, rfl, rfl⟩
  · exact ⟨_, e, rfl, rfl⟩
/-- zip(a, b) is made -/
theorem call2 {t u : Bool} {a b : Addr} {xs ys : Array Value} {Q : Value → Shared → Prop} (ha : Sq2 t s.heap a xs) (hb : Sq2 u s.heap b ys)
    (q : ∀ h', Zp t u h' (s.heap.objs.size + 4) (s.heap.objs.size + 2) (s.heap.objs.size + 3) s.heap.objs.size (s.heap.objs.size + 1) a b 0 0 → (∀ c o, s.heap.get? c = some o → h'.get? c = some o) → Q (.ref (s.heap.objs.size + 4)) { s with heap := h' }) :
    wpAny (model prog w) A (call (.type "zip") [.ref a, .ref b]) Q E s := by
  refine callType_new F.called_zip (by decide) (F.typeCall_zip_2 _ _) (F.newCall_zip_2 _ _) (fun obj => F.args_object_init_3 obj _ _) F.entry_zip_new (meets2 t u a b xs ys) ⟨ha, hb, ?_⟩
  generalize hn : s.heap.objs.size = n
  have y1 : (zA t s.heap a).objs.size = n + 1 := by rw [Heap.size_push, hn]
  have y2 : (zB t u s.heap a b).objs.size = n + 2 := by rw [Heap.size_push, y1]
  have y3 : (zC t u s.heap a b).objs.size = n + 3 := by rw [Heap.size_push, y2]
  have y4 : (zD t u s.heap a b).objs.size = n + 4 := by rw [Heap.size_push, y3]
  have up : ∀ {c o}, s.heap.get? c = some o → (zE t u s.heap a b).get? c = some o := fun x => Heap.get?_push_of_some _ (Heap.get?_push_of_some _ (Heap.get?_push_of_some _ (Heap.get?_push_of_some _ (Heap.get?_push_of_some _ x))))
  have k5 : (zE t u s.heap a b).get? (zD t u s.heap a b).objs.size = some _ := Heap.get?_push_size _ rfl
  have k4 : (zE t u s.heap a b).get? (zC t u s.heap a b).objs.size = some _ := Heap.get?_push_of_some _ (Heap.get?_push_size _ rfl)
  have k3 : (zE t u s.heap a b).get? (zB t u s.heap a b).objs.size = some _ := Heap.get?_push_of_some _ (Heap.get?_push_of_some _ (Heap.get?_push_size _ rfl))
  have k2 : (zE t u s.heap a b).get? (zA t s.heap a).objs.size = some _ := Heap.get?_push_of_some _ (Heap.get?_push_of_some _ (Heap.get?_push_of_some _ (Heap.get?_push_size _ rfl)))
  have k1 : (zE t u s.heap a b).get? s.heap.objs.size = some _ := Heap.get?_push_of_some _ (Heap.get?_push_of_some _ (Heap.get?_push_of_some _ (Heap.get?_push_of_some _ (Heap.get?_push_size _ rfl))))
  show _ ∧ _
  rw [y2, y3, y4] at k5; rw [y1, y2] at k3; rw [y3] at k4; rw [y1] at k2
  rw [hn] at k1 k3 q
  rw [y4]
  exact ⟨⟨_, k5, rfl⟩, q _ ⟨k5, k3, ⟨_, _, k4⟩, It2.new k1, It2.new k2⟩ fun c o x => up x⟩
end
/-! over the layer -/
def SqB (K : PySem.W.Frag) (t : Bool) (H : Hp) (a : Addr) (xs : List V) : Prop := match t with
  | true => SqT K H a xs
  | false => SqL K H a xs
def ItB (K : PySem.W.Frag) (t u : Bool) (a b : Addr) : It :=
  ⟨fun i H => ∃ (xs ys : List V) (x y : V), SqB K t H a xs ∧ SqB K u H b ys ∧ xs[i]? = some x ∧ ys[i]? = some y,
    fun i H v H' => ∃ T o x y, v = .ref T ∧ H T = none ∧ GT.NT o ∧ H' = upd H T (.frz o (.tup [x, y])) ∧ (∀ xs, SqB K t H a xs → xs[i]? = some x) ∧ ∀ ys, SqB K u H b ys → ys[i]? = some y,
    fun i H => ∃ xs ys : List V, SqB K t H a xs ∧ SqB K u H b ys ∧ (xs.length ≤ i ∨ ys.length ≤ i)⟩
theorem sqB_at {X : Cx} {pins : List (Addr × Obj)} {σ : L2.St} {H : Hp} {s : Shared} (I : Inv X pins σ H s) {t : Bool} {a : Addr} {xs : List V} (h : SqB X.K t H a xs) : ∃ its, Vals xs its ∧ Sq2 t s.heap a its.toArray := by
  cases t
  · obtain ⟨its, rv, p, _⟩ := I.list h
    exact ⟨its, rv, p.isList⟩
  · obtain ⟨its, rv, p, _⟩ := I.tuple h
    exact ⟨its, rv, p⟩
theorem sqB_one {X : Cx} {pins : List (Addr × Obj)} {σ : L2.St} {H : Hp} {s : Shared} (I : Inv X pins σ H s) {t : Bool} {a : Addr} {xs ys : List V} (h : SqB X.K t H a xs) (h2 : SqB X.K t H a ys) : xs = ys := by
  cases t
  · exact I.list_inj h h2
  · exact I.tuple_inj h h2
theorem turn2 {P : Program} {w : World} {K : PySem.W.Frag} {elts : List Expr} {kk : Nat} {tpos : Pos} {t u : Bool} {a b z TI p i j : Addr} (D : ZipApart z TI p i j a b) :
    Turn P w K (.Tuple elts kk tpos) (ItB K t u a b) [z, TI, p, i, j] z (fun n h => Zp t u h z TI p i j a b n n) where
  mem := by simp
  obj := fun n h st c hc => by
    have e' : c = z ∨ c = TI ∨ c = p ∨ c = i ∨ c = j := by simpa using hc
    obtain ⟨x, y, tp⟩ := st.tp
    rcases e' with q | q | q | q | q <;> rw [q]
    · exact ⟨_, st.zz, fun v q => nomatch q⟩
    · exact ⟨_, st.ti, fun v q => nomatch q⟩
    · exact ⟨_, tp, fun v q => nomatch q⟩
    · exact st.it.obj
    · exact st.jt.obj
  keep := fun n h h' st k => by
    obtain ⟨x, y, tp⟩ := st.tp
    exact ⟨k z (by simp) _ st.zz, k TI (by simp) _ st.ti, ⟨x, y, k p (by simp) _ tp⟩, st.it.move fun o q => k i (by simp) o q, st.jt.move fun o q => k j (by simp) o q⟩
  item := by
    intro X hP hw hK hc n pins s σ H E I hf st hg
    subst hP hw hK
    obtain ⟨xs, ys, x, y, qx, qy, hx, hy⟩ := hg
    obtain ⟨its, rv, p1⟩ := sqB_at I qx
    obtain ⟨it2, rv2, p2⟩ := sqB_at I qy
    obtain ⟨v, hv, r1⟩ := rv.get hx
    obtain ⟨v2, hv2, r2⟩ := rv2.get hy
    have zl : z < s.heap.objs.size := Heap.lt_size st.zz
    refine zp_next D st p1 p2 (x := v) (y := v2) (by simpa using hv) (by simpa using hv2) fun h' z' p' i' j' hT hsz hk => ?_
    refine ⟨_, rfl, wpAny_letOwnedTupleGo_zip (s := { s with heap := h' }) z' fun g z2 sb => ?_⟩
    have T2 : g.get? s.heap.objs.size = some { cls := .type "tuple", data := .seq #[v, v2] } := (sb.2 _ (Nat.ne_of_gt zl)).trans hT
    have new := GT.newOk (X := X) (H := H) (xs := [x, y]) (its := [v, v2]) T2 ⟨rfl, rfl⟩ rfl (by show 2 ≤ sizeLine; decide) (.cons r1 (.cons r2 .nil))
    have ne : ∀ c, ¬ c ∈ [z, TI, p, i, j] → c ≠ z ∧ c ≠ TI ∧ c ≠ p ∧ c ≠ i ∧ c ≠ j := fun c h => by simpa using h
    have I1 : Inv X pins σ _ { s with heap := g } := I.turnedNew (t' := s.toks) (ch := [z, TI, p, i, j]) (fun c o hb q => by
      obtain ⟨n1, n2, n3, n4, n5⟩ := ne c hb
      exact (sb.2 c n1).trans (hk c o n1 n3 n4 n5 q)) hf (Nat.le_refl _) new
    refine ⟨.ref s.heap.objs.size, _, I1, rfl, ⟨_, _, x, y, rfl, I.hok.fresh (Nat.le_refl _), ⟨rfl, rfl⟩, rfl, fun l hl => by rw [sqB_one I hl qx]; exact hx, fun l hl => by rw [sqB_one I hl qy]; exact hy⟩, ⟨z2, (sb.2 _ D.TIz).trans (hk _ _ D.TIz D.TITO D.TIi1 D.TIi2 st.ti), ⟨v, v2, (sb.2 _ D.TOz).trans p'⟩, i'.move fun o q => (sb.2 _ D.i1z).trans q, j'.move fun o q => (sb.2 _ D.i2z).trans q⟩, fun c hcm => ?_⟩
    have lt : c < s.heap.objs.size := by
      have e' : c = z ∨ c = TI ∨ c = p ∨ c = i ∨ c = j := by simpa using hcm
      obtain ⟨_, _, tp⟩ := st.tp
      rcases e' with q | q | q | q | q <;> rw [q]
      · exact zl
      · exact Heap.lt_size st.ti
      · exact Heap.lt_size tp
      · obtain ⟨_, e1, _⟩ := st.it.obj; exact Heap.lt_size e1
      · obtain ⟨_, e2, _⟩ := st.jt.obj; exact Heap.lt_size e2
    rw [upd_ne (Nat.ne_of_lt lt)]
    exact (hf c hcm).1
  done := by
    intro X hP hw hK hc n pins s σ H E I hf st hg
    subst hP hw hK
    obtain ⟨xs, ys, qx, qy, hend⟩ := hg
    obtain ⟨its, rv, p1⟩ := sqB_at I qx
    obtain ⟨it2, rv2, p2⟩ := sqB_at I qy
    have l1 := rv.length
    have l2 := rv2.length
    have he : its.toArray[n]? = none ∨ it2.toArray[n]? = none := by
      rcases hend with q | q
      · exact .inl (by simp; omega)
      · exact .inr (by simp; omega)
    refine zp_last (I.ok.hd hc) D st p1 p2 he fun h' hk => ⟨rfl, I.turnedL (t' := s.toks) (ch := [z, TI, p, i, j]) (fun c o hb q => ?_) hf⟩
    have ne : c ≠ z ∧ c ≠ TI ∧ c ≠ p ∧ c ≠ i ∧ c ≠ j := by simpa using hb
    exact hk c o ne.1 ne.2.2.1 ne.2.2.2.1 ne.2.2.2.2 q
  self := fun A n s Q E st h => wpAny_pyIter_zip st.zz h
def iZipB (K : PySem.W.Frag) (ta : TA) : TI := fun σ H R => ta σ H fun vs H1 => ∃ t u a b xs ys, vs = [.ref a, .ref b] ∧ SqB K t H1 a xs ∧ SqB K u H1 b ys ∧ R (ItB K t u a b) H1
theorem pi_zipB {X : Cx} {e e2 : Expr} {ta : TA} {p pos tpos : Pos} {elts : List Expr} {kk : Nat} (hg : Gl X "zip") (hm : X.mg "zip" = none) (ha : PA X [e, e2] ta)
    (h1 : starEach [e, e2] X.env = (false, eval e X.env) :: starEach [e2] X.env) (h2 : (backTo pos (starEach [e2] X.env)).any (·.1) = false) : PI X (.Tuple elts kk tpos) (.Call (.Name "zip" p) [e, e2] [] pos) (iZipB X.K ta) := by
  refine ⟨fun pins s σ H R I h => ?_⟩
  refine Call_ (ld_blt I hg hm PyProof.Rows.boot_zip (PyProof.Rows.callWith_type1 (thn (ha.run pos pins s σ H _ I h) fun us s1 ⟨vs, H1, I1, r1, q1⟩ => ?_) h1 h2))
  obtain ⟨t, u, a, b, xs, ys, ex, qx, qy, q⟩ := q1
  subst ex
  rcases r1 with _ | ⟨r, rr⟩
  rcases rr with _ | ⟨r', rr⟩
  cases rr; cases r; cases r'
  obtain ⟨its, rv, p1⟩ := sqB_at I1 qx
  obtain ⟨it2, rv2, p2⟩ := sqB_at I1 qy
  have lt : ∀ {t c xs}, Sq2 t s1.heap c xs → c < s1.heap.objs.size := fun {t c xs} x => by
    cases t
    · obtain ⟨_, e, _⟩ := x; exact Heap.lt_size e
    · obtain ⟨_, e, _⟩ := x; exact Heap.lt_size e
  refine call2 p1 p2 fun h' Z hk => wpAny_pyIter_zip Z.zz ?_
  refine ⟨s1.heap.objs.size + 4, [s1.heap.objs.size + 4, s1.heap.objs.size + 2, s1.heap.objs.size + 3, s1.heap.objs.size, s1.heap.objs.size + 1], _, _, H1, rfl, I1.kept (t' := s1.toks) hk, turn2 (PySem.W.ktu_apart s1.heap.objs.size a b (lt p1) (lt p2)), Z, fun c hcm => ?_, q⟩
  have e' : s1.heap.objs.size ≤ c := by
    have : c = s1.heap.objs.size + 4 ∨ c = s1.heap.objs.size + 2 ∨ c = s1.heap.objs.size + 3 ∨ c = s1.heap.objs.size ∨ c = s1.heap.objs.size + 1 := by simpa using hcm
    rcases this with q | q | q | q | q <;> rw [q] <;> first | exact Nat.le_add_right _ _ | exact Nat.le_refl _
  exact I1.fpOk e' (I1.hok.fresh e')
end GZ
namespace G
open PySem PySem.Spec PyProof.Rows L2 GZ
variable [Tb]
section
variable {C : Cfg} {W : WX} {M H M1 H1 : Hp} {σ σ' : L2.St} {nv nv1 : Nv} {Φ : Fn} {shs : Nat → Nat → Shape} {K : PySem.W.Frag}
theorem zip_get {xs ys : List D} {i : Nat} {d : D} (h : ((xs.zip ys).map fun p => D.tup [p.1, p.2])[i]? = some d) : ∃ x y, xs[i]? = some x ∧ ys[i]? = some y ∧ d = .tup [x, y] := by
  rw [List.getElem?_map] at h
  cases q : (xs.zip ys)[i]? with
  | none => rw [q] at h; cases h
  | some p =>
    rw [q] at h
    obtain ⟨h1, h2⟩ := List.getElem?_zip_eq_some.mp q
    exact ⟨p.1, p.2, h1, h2, (Option.some.inj h).symm⟩
theorem zip_end {xs ys : List D} {vs us : List V} {M : Hp} (r : Reps K M xs vs) (r2 : Reps K M ys us) : vs.length ≤ ((xs.zip ys).map fun p => D.tup [p.1, p.2]).length ∨ us.length ≤ ((xs.zip ys).map fun p => D.tup [p.1, p.2]).length := by
  rw [List.length_map, List.length_zip, ← r.length, ← r2.length]
  omega
theorem sqB_up {t : Bool} {M H : Hp} {a : Addr} {vs : List V} (e : Same M H) (h : SqB K t M a vs) : SqB K t H a vs := by
  cases t
  · exact e.seq h
  · exact Same.sqt e h
theorem jok_zip {t u : Bool} {M : Hp} {a b : Addr} {vs us : List V} {xs ys : List D} (h : SqB K t M a vs) (r : Reps K M xs vs) (h2 : SqB K u M b us) (r2 : Reps K M ys us) : JOk K M (ItB K t u a b) ((xs.zip ys).map fun p => D.tup [p.1, p.2]) := by
  refine ⟨fun M' H s1 s2 => ⟨vs, us, sqB_up (s1.trans s2) h, sqB_up (s1.trans s2) h2, zip_end r r2⟩, fun M' H i d s1 s2 hd => ?_⟩
  obtain ⟨x, y, hx, hy, rfl⟩ := zip_get hd
  obtain ⟨v, h3, h4⟩ := r.get hx
  obtain ⟨u', h5, h6⟩ := r2.get hy
  refine ⟨⟨vs, us, v, u', sqB_up (s1.trans s2) h, sqB_up (s1.trans s2) h2, h3, h5⟩, fun w H' z => ?_⟩
  obtain ⟨p, o, v', u'', rfl, np, no, rfl, z1, z2⟩ := z
  have e1 := z1 vs (sqB_up (s1.trans s2) h)
  have e2 := z2 us (sqB_up (s1.trans s2) h2)
  rw [h3] at e1
  rw [h5] at e2
  cases e1
  cases e2
  exact pair_ok s2 (Rep.mono s1 h4) (Rep.mono s1 h6) no np
theorem seqB_rep {M : Hp} {d : D} {v : V} {t : Bool} {xs : List D} (h : Rep K M d v) (q : seqOf d = some (t, xs)) : ∃ a vs, v = .ref a ∧ Reps K M xs vs ∧ SqB K t M a vs := by
  obtain ⟨a, vs, e, r, s⟩ := seq_rep h q
  refine ⟨a, vs, e, r, ?_⟩
  rcases s with ⟨rfl, s⟩ | ⟨rfl, s⟩
  · exact s.t
  · exact s
theorem sndI_zip {elts : List Expr} {kk : Nat} {tpos p pos : Pos} {x y : Expr} {e f : E} (hg : isGl C.sc "zip" = true) (hm : C.mg "zip" = none) (ns : noStar x = true) (ns2 : noStar y = true) (h : SndA C W [x, y] (evOs Φ shs [e, f])) :
    SndI C W (.Tuple elts kk tpos) (.Call (.Name "zip" p) [x, y] [] pos) (itf Φ shs .zip [e, f]) := by
  intro M H σ nv R st hd
  refine tI.by (t := iZipB C.K (tA C W [x, y])) (fun X hX => by rw [← hX.K]; exact pi_zipB (gl_of hX hg) (by rw [hX.mg]; exact hm) (PAo hX [x, y]) (star_cons ns _ _) (by rw [star_cons ns2]; rfl)) ?_
  unfold itf at hd
  refine h M H σ nv _ st ?_
  cases ev : evOs Φ shs [e, f] nv with
  | ok os nv1 =>
    rw [ev] at hd
    intro M1 H1 s1 st1 vs hv
    have hd := DoneX.later hd s1
    simp only [Rs.bind] at hd
    match os, hd, hv with
    | [.inl a, .inl b], hd, hv =>
      simp only [items] at hd
      obtain ⟨v, vs', rfl, h1, u, us', rfl, h2, h3⟩ := hv
      have h3 : us' = [] := h3
      subst h3
      have h1 : Rep C.K M1 a v := h1
      have h2 : Rep C.K M1 b u := h2
      cases q : seqOf a with
      | none => rw [q] at hd; exact hd.elim
      | some sx =>
        obtain ⟨s, xs⟩ := sx
        cases q2 : seqOf b with
        | none => rw [q, q2] at hd; exact hd.elim
        | some ty =>
          obtain ⟨t, ys⟩ := ty
          rw [q, q2] at hd
          obtain ⟨a1, ws, rfl, k1, k2⟩ := seqB_rep h1 q
          obtain ⟨b1, zs, rfl, k3, k4⟩ := seqB_rep h2 q2
          exact ⟨s, t, a1, b1, ws, zs, rfl, sqB_up st1.ext k2, sqB_up st1.ext k4, hd M1 H1 (Step.refl _ _ _) st1 _ (jok_zip k2 k1 k4 k3)⟩
    | [], hd, hv => exact hd.elim
    | [.inr _], hd, hv => exact hd.elim
    | [.inl d], hd, hv => simp only [items] at hd; exact hd.elim
    | [.inl _, .inr _], hd, hv => exact hd.elim
    | [.inr _, .inl _], hd, hv => exact hd.elim
    | [.inr _, .inr _], hd, hv => exact hd.elim
    | a :: b :: c :: r, hd, hv => simp only [items] at hd; exact hd.elim
  | exc c as nv1 => rw [ev] at hd; exact hd
  | stuck => rw [ev] at hd; exact hd
end
end G
namespace G
open PySem L2
def Wp {α : Type} (r : Rs α) (Q : α → Nv → Prop) : Prop := ∃ a nv, r = .ok a nv ∧ Q a nv
section
variable {α β : Type} {Q : α → Nv → Prop}
theorem Wp.imp {r : Rs α} {Q' : α → Nv → Prop} (h : Wp r Q) (k : ∀ a nv, Q a nv → Q' a nv) : Wp r Q' := by
  obtain ⟨a, nv, e, h⟩ := h
  exact ⟨a, nv, e, k a nv h⟩
end
section
variable {Φ : Fn} {shs : Nat → Nat → Shape} {Q : Fl → Nv → Prop} {nv : Nv}
end
theorem bind_ok {α β : Type} {a : α} {nv : Nv} {f : α → Nv → Rs β} : (Rs.ok a nv).bind f = f a nv := rfl
end G
namespace G
open PySem PySem.Spec PyProof.Rows L2
variable [Tb]
section
variable {C : Cfg} {W : WX} {M H M1 H1 : Hp} {σ σ' : L2.St} {nv nv1 : Nv} {Φ : Fn} {shs : Nat → Nat → Shape} {K : PySem.W.Frag} {x : Expr} {a : E} {pos : Pos}
end
theorem cut_hi (xs : List D) (s : Nat) : cutD xs none (some (s : Int)) = xs.take s := by
  unfold cutD
  rw [HT.sIx_none, HT.sIx_nat]
  simp [List.take_eq_take_iff]
theorem cut_lo (xs : List D) (s : Nat) : cutD xs (some (s : Int)) none = xs.drop s := by
  unfold cutD
  rw [HT.sIx_none, HT.sIx_nat]
  by_cases h : s ≤ xs.length
  · rw [Nat.min_eq_left h, ← List.length_drop, List.take_length]
  · rw [Nat.min_eq_right (by omega)]
    simp
    omega
section
variable {C : Cfg} {W : WX} {M H M1 H1 : Hp} {σ σ' : L2.St} {nv nv1 : Nv} {Φ : Fn} {shs : Nat → Nat → Shape}
theorem StR.drops (st : StR C.K M H σ nv) : ∀ is : List Nat, StR C.K M H σ (wipeN nv is)
  | [] => st
  | i :: is => StR.drop (StR.drops st is) i
theorem own_wipe {a : Addr} {is : List Nat} (h : Own σ (wipeN nv is) a) : Own σ nv a := by
  rcases h with ⟨i, f, ds, h1, h2⟩ | h
  case inr => exact .inr h
  exact .inl ⟨i, f, ds, (wipeN_some h1).1, h2⟩
theorem sndB_kill {xs : List Stmt} {ss : List S} {is : List Nat} (h : SndB C W xs (evB Φ shs ss)) : SndB C W xs (evB Φ shs (.kill is :: ss)) := by
  intro M H σ nv D st hd
  rw [evB, evS] at hd
  exact h M H σ (wipeN nv is) D (StR.drops st is) (DoneS.later hd ((Step.refl _ _ _).less fun a z => own_wipe z) (Pk.refl C σ))
end
end G
namespace G
/-- laws without lambdas -/
instance (priority := 10) tbNone : Tb := ⟨[], fun _ => none⟩
noncomputable section
open PySem L2
/-! ### the plain reading of the reckoning: no slots -/
inductive Z (α : Type) where
  | ok (a : α) | exc (c : Nat) (as : List D) | no
  deriving Inhabited
def Z.bind {α β : Type} : Z α → (α → Z β) → Z β
  | .ok a, f => f a
  | .exc c as, _ => .exc c as
  | .no, _ => .no
def Z.of {α : Type} : Option α → Z α
  | some a => .ok a
  | none => .no
def Z.nox {α : Type} : Z α → Z α
  | .ok a => .ok a
  | _ => .no
def zval : Option R → Z D
  | some (.val d) => .ok d
  | _ => .no
def zown : Option R → Z (List D)
  | some (.own ds) => .ok ds
  | _ => .no
def z1 (p : P1) (d : D) : Z D := zval (p1 p d)
def z1o (p : P1) (d : D) : Z (List D) := zown (p1 p d)
def z2 (p : P2) (d e : D) : Z D := zval (p2 p d e)
def zaug (p : P2) (d e : D) : Z D := zval (pAug p d e)
def zslc (d : D) (l h : Option Int) : Z D := zval (pSlc d l h)
def zslco (d : D) (l h : Option Int) : Z (List D) := zown (pSlc d l h)
def zite {α : Type} : D → Z α → Z α → Z α
  | .bl true, a, _ => a
  | .bl false, _, b => b
  | _, _, _ => .no
def zand (x : D) (m : Z D) : Z D := zite x m (.ok (.bl false))
def zor (x : D) (m : Z D) : Z D := zite x (.ok (.bl true)) m
def znot : D → Z D
  | .bl b => .ok (.bl !b)
  | _ => .no
def zun2 : D → Z (D × D)
  | .tup [x, y] => .ok (x, y)
  | _ => .no
def zun3 : D → Z (D × D × D)
  | .tup [x, y, z] => .ok (x, y, z)
  | _ => .no
def itD (k : Ik) (ds : List D) : Z (List D) := Z.of (items k (ds.map .inl))
def zapp (xs : List D) (y : D) : Z (List D) := if xs.length < SZ then .ok (xs ++ [y]) else .no
def zmth (m : Mt) (xs ds : List D) : Z (D × List D) := Z.of (mthD m xs ds)
def zst (xs : List D) (k d : D) : Z (List D) := match k with
  | .int k => match ixN xs.length k with
    | some j => .ok (xs.set j d)
    | none => .no
  | _ => .no
def foldZ {σ : Type} (f : D → σ → Z σ) : List D → σ → Z σ
  | [], s => .ok s
  | d :: ds, s => (f d s).bind fun s => foldZ f ds s
inductive Fz (σ ρ : Type) where
  | nx (s : σ) | brk (s : σ) | ret (c : ρ)
def forZ {σ ρ : Type} (f : D → σ → Z (Fz σ ρ)) : List D → σ → Z (Fz σ ρ)
  | [], s => .ok (.nx s)
  | d :: ds, s => (f d s).bind fun r => match r with
    | .nx s => forZ f ds s
    | .brk s => .ok (.nx s)
    | .ret c => .ok (.ret c)
def zfl {σ ρ α : Type} : Fz σ ρ → (σ → Z α) → (ρ → Z α) → Z α
  | .nx s, f, _ => f s
  | .brk s, f, _ => f s
  | .ret c, _, g => g c
def mapZ' (f : D → Z D) : List D → Z (List D)
  | [] => .ok []
  | d :: ds => (f d).bind fun y => (mapZ' f ds).bind fun ys => .ok (y :: ys)
def mapZ (f : D → Z D) (xs : List D) : Z (List D) := if xs.length ≤ SZ then (mapZ' f xs).nox else .no
def compZ' (f : D → Z (Option D)) : List D → Z (List D)
  | [] => .ok []
  | d :: ds => (f d).bind fun y => (compZ' f ds).bind fun ys => .ok (match y with | some y => y :: ys | none => ys)
def compZ (f : D → Z (Option D)) (xs : List D) : Z (List D) := if xs.length ≤ SZ then (compZ' f xs).nox else .no
def mapS' {σ : Type} (f : D → σ → Z (D × σ)) : List D → σ → Z (List D × σ)
  | [], s => .ok ([], s)
  | d :: ds, s => (f d s).bind fun y => (mapS' f ds y.2).bind fun ys => .ok (y.1 :: ys.1, ys.2)
def mapS {σ : Type} (f : D → σ → Z (D × σ)) (xs : List D) (s : σ) : Z (List D × σ) := if xs.length ≤ SZ then (mapS' f xs s).nox else .no
def compS' {σ : Type} (f : D → σ → Z (Option D × σ)) : List D → σ → Z (List D × σ)
  | [], s => .ok ([], s)
  | d :: ds, s => (f d s).bind fun y => (compS' f ds y.2).bind fun ys => .ok ((match y.1 with | some y => y :: ys.1 | none => ys.1), ys.2)
def compS {σ : Type} (f : D → σ → Z (Option D × σ)) (xs : List D) (s : σ) : Z (List D × σ) := if xs.length ≤ SZ then (compS' f xs s).nox else .no
/-! ### the link -/
structure L {α γ : Type} (X : Nv → Prop) (m : Z γ) (r : Rs α) (Q : γ → Rs α → Prop) : Prop where
  un : match m with
  | .ok c => Q c r
  | .exc c as => ∃ e, X e ∧ r = .exc c as e
  | .no => True
theorem rbind_assoc {α β γ : Type} {r : Rs α} {f : α → Nv → Rs β} {g : β → Nv → Rs γ} : (r.bind f).bind g = r.bind fun a nv => (f a nv).bind g := by cases r <;> rfl
theorem rbind_id {α : Type} {r : Rs α} : r.bind Rs.ok = r := by cases r <;> rfl
section
variable {α γ δ τ : Type} {X : Nv → Prop} {m m1 m2 : Z γ} {Q : γ → Rs α → Prop} {Φ : Fn} {shs : Nat → Nat → Shape} {nv nv1 : Nv}
theorem l_no {r : Rs α} : L X .no r Q := ⟨trivial⟩
theorem L.imp {r : Rs α} {Q' : γ → Rs α → Prop} (h : L X m r Q) (k : ∀ c, Q c r → Q' c r) : L X m r Q' := by
  cases m with
  | ok c => exact ⟨k c h.un⟩
  | exc c as => exact ⟨h.un⟩
  | no => exact l_no
/-- first a part of the reading -/
theorem l_bind {n : Z δ} {m' : δ → Z γ} {r0 : Rs τ} {k : τ → Nv → Rs α} {Q' : δ → Rs τ → Prop} (h : L X n r0 Q') (hk : ∀ c, Q' c r0 → L X (m' c) (r0.bind k) Q) : L X (n.bind m') (r0.bind k) Q := by
  cases n with
  | ok c => exact hk c h.un
  | exc c as => obtain ⟨e, x, q⟩ := h.un; exact ⟨⟨e, x, by rw [q]; rfl⟩⟩
  | no => exact l_no
section
variable {k : R → Nv → Rs α}
theorem e_end {e : E} {Q : γ → Rs R → Prop} (h : L X m ((evE Φ shs e nv).bind Rs.ok) Q) : L X m (evE Φ shs e nv) Q := by rwa [rbind_id] at h
theorem x_non (h : L X m (k (.val .non) nv) Q) : L X m ((evE Φ shs .non nv).bind k) Q := by rw [evE]; exact h
theorem x_bl {b : Bool} (h : L X m (k (.val (.bl b)) nv) Q) : L X m ((evE Φ shs (.bl b) nv).bind k) Q := by rw [evE]; exact h
theorem x_int {i : Int} (h : L X m (k (.val (.int i)) nv) Q) : L X m ((evE Φ shs (.int i) nv).bind k) Q := by rw [evE]; exact h
theorem x_str {s : Str} (h : L X m (k (.val (.str s)) nv) Q) : L X m ((evE Φ shs (.str s) nv).bind k) Q := by rw [evE]; exact h
theorem x_var {i : Nat} {d : D} (e : nv[i]? = some (some (.val d))) (h : L X m (k (.val d) nv) Q) : L X m ((evE Φ shs (.var i) nv).bind k) Q := by
  rw [evE, rdVar, e]; exact h
theorem x_varF {i : Nat} {ds : List D} (e : nv[i]? = some (some (.lv (.l true) ds))) (e1 : nv.set i (some (.val (.lst ds))) = nv1) (h : L X m (k (.val (.lst ds)) nv1) Q) : L X m ((evE Φ shs (.var i) nv).bind k) Q := by
  subst e1
  rw [evE, rdVar, e]; exact h
theorem x_mov {i : Nat} {d : D} (e : nv[i]? = some (some (.val d))) (h : L X m (k (.val d) nv) Q) : L X m ((evE Φ shs (.mov i) nv).bind k) Q := by
  rw [evE, mvVar, e]; exact h
theorem x_movO {i : Nat} {ds : List D} (e : nv[i]? = some (some (.lv (.l true) ds))) (e1 : nv.set i none = nv1) (h : L X m (k (.own ds) nv1) Q) : L X m ((evE Φ shs (.mov i) nv).bind k) Q := by
  subst e1
  rw [evE, mvVar, e]; exact h
theorem x_op1 {p : P1} {a : E} (h : L X m ((opd a nv (evE Φ shs a nv)).bind fun x nv1 => (Rs.of ((look nv1 x).bind (p1 p)) nv1).bind k) Q) : L X m ((evE Φ shs (.op1 p a) nv).bind k) Q := by
  rw [evE, rbind_assoc]; exact h
theorem x_op2 {p : P2} {a b : E} (h : L X m ((opd a nv (evE Φ shs a nv)).bind fun x nv1 => (opd b nv1 (evE Φ shs b nv1)).bind fun y nv2 => (Rs.of ((look nv2 x).bind fun d => (look nv2 y).bind fun e => p2 p d e) nv2).bind k) Q) : L X m ((evE Φ shs (.op2 p a b) nv).bind k) Q := by
  rw [evE, rbind_assoc]
  simpa only [rbind_assoc] using h
theorem z_op1 {p : P1} {x : D ⊕ Nat} {d : D} {m' : D → Z γ} (h1 : look nv x = some d) (hk : ∀ r, L X (m' r) (k (.val r) nv) Q) : L X ((z1 p d).bind m') ((Rs.of ((look nv x).bind (p1 p)) nv).bind k) Q := by
  rw [h1]
  simp only [Option.bind_some]
  unfold z1
  cases p1 p d with
  | none => exact l_no
  | some r => cases r with
    | val r => exact hk r
    | own ds => exact l_no
theorem z_op1o {p : P1} {x : D ⊕ Nat} {d : D} {m' : List D → Z γ} (h1 : look nv x = some d) (hk : ∀ r, L X (m' r) (k (.own r) nv) Q) : L X ((z1o p d).bind m') ((Rs.of ((look nv x).bind (p1 p)) nv).bind k) Q := by
  rw [h1]
  simp only [Option.bind_some]
  unfold z1o
  cases p1 p d with
  | none => exact l_no
  | some r => cases r with
    | val r => exact l_no
    | own ds => exact hk ds
theorem z_op2 {p : P2} {x y : D ⊕ Nat} {d e : D} {m' : D → Z γ} (h1 : look nv x = some d) (h2 : look nv y = some e) (hk : ∀ r, L X (m' r) (k (.val r) nv) Q) : L X ((z2 p d e).bind m') ((Rs.of ((look nv x).bind fun d => (look nv y).bind fun e => p2 p d e) nv).bind k) Q := by
  rw [h1, h2]
  simp only [Option.bind_some]
  unfold z2
  cases p2 p d e with
  | none => exact l_no
  | some r => cases r with
    | val r => exact hk r
    | own ds => exact l_no
theorem o_var {i : Nat} {s : Sl} {ra : Rs R} {k : D ⊕ Nat → Nv → Rs α} (e : nv[i]? = some (some s)) (h : L X m (k (.inr i) nv) Q) : L X m ((opd (.var i) nv ra).bind k) Q := by
  have : opd (.var i) nv ra = .ok (.inr i) nv := by
    unfold opd
    dsimp only
    rw [e]
  rw [this]; exact h
theorem o_exp {a : E} {k : D ⊕ Nat → Nv → Rs α} (e : isVar a = false) (h : L X m ((evE Φ shs a nv).bind fun r nv1 => k (.inl r.frz) nv1) Q) : L X m ((opd a nv (evE Φ shs a nv)).bind k) Q := by
  have : ∀ ra, opd a nv ra = ra.bind fun r nv1 => .ok (.inl r.frz) nv1 := fun ra => by cases a <;> first | rfl | (cases e)
  rw [this, rbind_assoc]; exact h
def kNot (k : R → Nv → Rs α) (r : R) (nv1 : Nv) : Rs α := (match r with
    | .val (.bl k) => .ok (.val (.bl (!k))) nv1
    | _ => .stuck : Rs R).bind k
theorem x_not {a : E} (h : L X m ((evE Φ shs a nv).bind (kNot k)) Q) : L X m ((evE Φ shs (.not_ a) nv).bind k) Q := by
  rw [evE, rbind_assoc]; exact h
theorem z_not {d : D} {m' : D → Z γ} (hk : ∀ r, L X (m' r) (k (.val r) nv) Q) : L X ((znot d).bind m') (kNot k (.val d) nv) Q := by
  cases d <;> first | exact l_no | exact hk _
def kAnd (Φ : Fn) (shs : Nat → Nat → Shape) (b : E) (k : R → Nv → Rs α) (r : R) (nv1 : Nv) : Rs α := (match r with
    | .val (.bl true) => evE Φ shs b nv1
    | .val (.bl false) => Rs.ok (.val (.bl false)) nv1
    | _ => .stuck : Rs R).bind k
def kOr (Φ : Fn) (shs : Nat → Nat → Shape) (b : E) (k : R → Nv → Rs α) (r : R) (nv1 : Nv) : Rs α := (match r with
    | .val (.bl true) => Rs.ok (.val (.bl true)) nv1
    | .val (.bl false) => evE Φ shs b nv1
    | _ => .stuck : Rs R).bind k
theorem x_and {a b : E} (h : L X m ((evE Φ shs a nv).bind (kAnd Φ shs b k)) Q) : L X m ((evE Φ shs (.and_ a b) nv).bind k) Q := by
  rw [evE, rbind_assoc]; exact h
theorem x_or {a b : E} (h : L X m ((evE Φ shs a nv).bind (kOr Φ shs b k)) Q) : L X m ((evE Φ shs (.or_ a b) nv).bind k) Q := by
  rw [evE, rbind_assoc]; exact h
/-- what an expression comes to: a reading s, told by h, the slots by g -/
def QE {τ : Type} (h : τ → R) (g : τ → Nv) (s : τ) (r : Rs R) : Prop := r = .ok (h s) (g s)
theorem qe_ok {τ : Type} {h : τ → R} {g : τ → Nv} {s : τ} {r : R} (e1 : h s = r) (e2 : g s = nv) : L X (.ok s) (Rs.ok r nv) (QE h g) := by
  subst e1; subst e2; exact ⟨rfl⟩
theorem z_and {b : E} {d : D} {mb : Z D} {m' : D → Z γ} (hb : L X mb (evE Φ shs b nv) (QE .val fun _ => nv)) (hk : ∀ r, L X (m' r) (k (.val r) nv) Q) : L X ((zand d mb).bind m') (kAnd Φ shs b k (.val d) nv) Q := by
  cases d with
  | bl v =>
    cases v with
    | true => exact l_bind hb fun c q => by rw [q]; exact hk c
    | false => exact hk _
  | _ => exact l_no
theorem z_or {b : E} {d : D} {mb : Z D} {m' : D → Z γ} (hb : L X mb (evE Φ shs b nv) (QE .val fun _ => nv)) (hk : ∀ r, L X (m' r) (k (.val r) nv) Q) : L X ((zor d mb).bind m') (kOr Φ shs b k (.val d) nv) Q := by
  cases d with
  | bl v =>
    cases v with
    | false => exact l_bind hb fun c q => by rw [q]; exact hk c
    | true => exact hk _
  | _ => exact l_no
/-- with slots that change -/
theorem z_andS {b : E} {d : D} {τ : Type} {ma mb : Z τ} {h : τ → R} {g : τ → Nv} {m' : τ → Z γ} (hb : L X mb (evE Φ shs b nv) (QE h g)) (ha : L X ma (Rs.ok (.val (.bl false)) nv) (QE h g)) (hk : ∀ s, L X (m' s) (k (h s) (g s)) Q) : L X ((zite d mb ma).bind m') (kAnd Φ shs b k (.val d) nv) Q := by
  cases d with
  | bl v =>
    cases v with
    | true => exact l_bind hb fun c q => by rw [q]; exact hk c
    | false => exact l_bind (k := k) ha fun c (q : _ = Rs.ok (h c) (g c)) => by rw [q]; exact hk c
  | _ => exact l_no
def kHi (hi : E) (k : R → Nv → Rs α) (x : D ⊕ Nat) (l : Option Int) (h : R) (nv3 : Nv) : Rs α := (match part hi h.frz with
      | none => .stuck
      | some h => Rs.of ((look nv3 x).bind fun d => pSlc d l h) nv3 : Rs R).bind k
def kLo (Φ : Fn) (shs : Nat → Nat → Shape) (lo hi : E) (k : R → Nv → Rs α) (x : D ⊕ Nat) (l : R) (nv2 : Nv) : Rs α := match part lo l.frz with
    | none => .stuck
    | some l => (evE Φ shs hi nv2).bind (kHi hi k x l)
theorem x_slc {a lo hi : E} (h : L X m ((opd a nv (evE Φ shs a nv)).bind fun x nv1 => (evE Φ shs lo nv1).bind (kLo Φ shs lo hi k x)) Q) : L X m ((evE Φ shs (.slc a lo hi) nv).bind k) Q := by
  rw [evE, rbind_assoc]
  refine Eq.mp (congrArg (fun z => L X m z Q) ?_) h
  congr 1
  funext x nv1
  rw [rbind_assoc]
  congr 1
  funext l nv2
  unfold kLo
  cases part lo l.frz with
  | none => rfl
  | some l =>
    dsimp only
    rw [rbind_assoc]
    rfl
theorem s_loN {hi : E} {x : D ⊕ Nat} (h : L X m ((evE Φ shs hi nv).bind (kHi hi k x none)) Q) : L X m ((evE Φ shs .non nv).bind (kLo Φ shs .non hi k x)) Q := by
  rw [evE]; exact h
def zpart {γ : Type} (d : D) (f : Int → Z γ) : Z γ := match d with
  | .int i => f i
  | _ => .no
theorem part_e {e : E} {d : D} (n : (match e with | .non => false | _ => true) = true) : part e d = match d with | .int i => some (some i) | _ => none := by
  cases e <;> first | (cases d <;> rfl) | (cases n)
theorem s_loE {lo hi : E} {x : D ⊕ Nat} {d : D} {f : Int → Z γ} (n : (match lo with | .non => false | _ => true) = true) (h : ∀ i, L X (f i) ((evE Φ shs hi nv).bind (kHi hi k x (some i))) Q) : L X (zpart d f) (kLo Φ shs lo hi k x (.val d) nv) Q := by
  unfold kLo
  simp only [R.frz]
  rw [part_e n]
  cases d with
  | int i => exact h i
  | _ => exact l_no
theorem s_hiN {x : D ⊕ Nat} {l : Option Int} (h : L X m ((Rs.of ((look nv x).bind fun d => pSlc d l none) nv).bind k) Q) : L X m ((evE Φ shs .non nv).bind (kHi .non k x l)) Q := by
  rw [evE]; exact h
theorem s_hiE {hi : E} {x : D ⊕ Nat} {l : Option Int} {d : D} {f : Int → Z γ} (n : (match hi with | .non => false | _ => true) = true) (h : ∀ i, L X (f i) ((Rs.of ((look nv x).bind fun d => pSlc d l (some i)) nv).bind k) Q) : L X (zpart d f) (kHi hi k x l (.val d) nv) Q := by
  unfold kHi
  simp only [R.frz]
  rw [part_e n]
  cases d with
  | int i => exact h i
  | _ => exact l_no
theorem z_slc {x : D ⊕ Nat} {d : D} {l h : Option Int} {m' : D → Z γ} (h1 : look nv x = some d) (hk : ∀ r, L X (m' r) (k (.val r) nv) Q) : L X ((zslc d l h).bind m') ((Rs.of ((look nv x).bind fun d => pSlc d l h) nv).bind k) Q := by
  rw [h1]
  simp only [Option.bind_some]
  unfold zslc
  cases pSlc d l h with
  | none => exact l_no
  | some r => cases r with
    | val r => exact hk r
    | own ds => exact l_no
theorem z_slco {x : D ⊕ Nat} {d : D} {l h : Option Int} {m' : List D → Z γ} (h1 : look nv x = some d) (hk : ∀ r, L X (m' r) (k (.own r) nv) Q) : L X ((zslco d l h).bind m') ((Rs.of ((look nv x).bind fun d => pSlc d l h) nv).bind k) Q := by
  rw [h1]
  simp only [Option.bind_some]
  unfold zslco
  cases pSlc d l h with
  | none => exact l_no
  | some r => cases r with
    | val r => exact l_no
    | own ds => exact hk ds
/-! arguments, displays -/
theorem g_nil {k : List (D ⊕ Nat) → Nv → Rs α} (h : L X m (k [] nv) Q) : L X m ((evOs Φ shs [] nv).bind k) Q := by rw [evOs]; exact h
theorem g_brw {i : Nat} {s : Sl} {es : List E} {k : List (D ⊕ Nat) → Nv → Rs α} (e : nv[i]? = some (some s)) (h : L X m ((evOs Φ shs es nv).bind fun os nv1 => k (.inr i :: os) nv1) Q) : L X m ((evOs Φ shs (.brw i :: es) nv).bind k) Q := by
  rw [evOs, argStep, e]
  dsimp only
  rw [rbind_assoc]; exact h
theorem g_cons {e : E} {es : List E} {k : List (D ⊕ Nat) → Nv → Rs α} (nb : isBrw e = false) (h : L X m ((evE Φ shs e nv).bind fun r nv1 => (evOs Φ shs es nv1).bind fun os nv2 => k (.inl r.frz :: os) nv2) Q) : L X m ((evOs Φ shs (e :: es) nv).bind k) Q := by
  rw [evOs]
  have : ∀ re rest, argStep e nv re rest = re.bind fun r nv1 => (rest nv1).bind fun os nv2 => .ok (.inl r.frz :: os) nv2 := fun re rest => by cases e <;> first | rfl | (cases nb)
  rw [this]
  simp only [rbind_assoc, bind_ok]
  exact h
theorem x_tup {es : List E} (h : L X m ((evOs Φ shs es nv).bind fun os nv1 => (Rs.of ((inls os).bind fun ds => if ds.length ≤ SZ then some (R.val (.tup ds)) else none) nv1).bind k) Q) : L X m ((evE Φ shs (.tup es) nv).bind k) Q := by
  rw [evE, rbind_assoc]; exact h
theorem z_tup {os : List (D ⊕ Nat)} {ds : List D} (e : inls os = some ds) (hl : decide (ds.length ≤ SZ) = true) (h : L X m (k (.val (.tup ds)) nv) Q) : L X m ((Rs.of ((inls os).bind fun ds => if ds.length ≤ SZ then some (R.val (.tup ds)) else none) nv).bind k) Q := by
  rw [e]
  simp only [Option.bind_some]
  rw [if_pos (of_decide_eq_true hl)]; exact h
theorem x_lst {es : List E} (h : L X m ((evOs Φ shs es nv).bind fun os nv1 => (Rs.of ((inls os).bind fun ds => if ds.length ≤ SZ then some (R.own ds) else none) nv1).bind k) Q) : L X m ((evE Φ shs (.lst es) nv).bind k) Q := by
  rw [evE, rbind_assoc]; exact h
theorem z_lst {os : List (D ⊕ Nat)} {ds : List D} (e : inls os = some ds) (hl : decide (ds.length ≤ SZ) = true) (h : L X m (k (.own ds) nv) Q) : L X m ((Rs.of ((inls os).bind fun ds => if ds.length ≤ SZ then some (R.own ds) else none) nv).bind k) Q := by
  rw [e]
  simp only [Option.bind_some]
  rw [if_pos (of_decide_eq_true hl)]; exact h
/-! calls -/
structure FqP {ρ : Type} (m : Z ρ) (r : Cr) (h : ρ → R) (ss : List Sl) : Prop where
  un : match m with
  | .ok c => r = .ok (h c) ss
  | .exc c as => r = .exc c as ss
  | .no => True
structure FqL {ρ : Type} (m : Z ρ) (r : Cr) (h : ρ → R) (o : ρ → List Sl) : Prop where
  un : match m with
  | .ok c => r = .ok (h c) (o c)
  | _ => True
theorem x_call {f sh : Nat} {es : List E} (h : L X m ((evOs Φ shs es nv).bind fun os nv1 => (callOn Φ f (shs f sh) os nv1).bind k) Q) : L X m ((evE Φ shs (.call f sh es) nv).bind k) Q := by
  rw [evE, rbind_assoc]; exact h
theorem put_inl {ds : List D} : ∀ {outs : List Sl}, outs.length = ds.length → putBack nv (ds.map .inl) outs = some nv := by
  induction ds with
  | nil => intro outs _; cases outs <;> rfl
  | cons d ds ih =>
    intro outs h
    cases outs with
    | nil => cases h
    | cons s outs =>
      simp only [List.map_cons, putBack]
      exact ih (by simpa using h)
theorem slots_inl : ∀ {ds : List D}, slotsOf nv (ds.map .inl) = some (ds.map .val)
  | [] => rfl
  | d :: ds => by simp only [List.map_cons, slotsOf, slots_inl]; rfl
theorem brws_inl : ∀ {ds : List D}, brws (ds.map .inl) = []
  | [] => rfl
  | d :: ds => by simp only [List.map_cons, brws, brws_inl]
/-- a call with data alone -/
theorem z_callP {ρ : Type} {n : Z ρ} {m' : ρ → Z γ} {f : Nat} {sh : Shape} {os : List (D ⊕ Nat)} {ds : List D} {h : ρ → R} (hq : FqP n (Φ f (ds.map .val)) h (ds.map .val)) (e1 : arrO sh os = some (ds.map .inl)) (hx : X nv) (hk : ∀ c, L X (m' c) (k (h c) nv) Q) : L X (n.bind m') ((callOn Φ f sh os nv).bind k) Q := by
  unfold callOn
  rw [e1]
  dsimp only
  rw [slots_inl]
  dsimp only
  rw [if_pos (by rw [brws_inl]; exact List.nodup_nil)]
  cases n with
  | ok c =>
    have hq : Φ f (ds.map .val) = .ok (h c) (ds.map .val) := hq.un
    rw [hq]
    dsimp only
    rw [put_inl (by simp)]
    exact hk c
  | exc c as =>
    have hq : Φ f (ds.map .val) = .exc c as (ds.map .val) := hq.un
    rw [hq]
    dsimp only
    rw [put_inl (by simp)]
    exact ⟨⟨nv, hx, rfl⟩⟩
  | no => exact l_no
/-- a call that is lent lists -/
theorem z_callL {ρ : Type} {n : Z ρ} {m' : ρ → Z γ} {f : Nat} {sh : Shape} {os os' : List (D ⊕ Nat)} {ss : List Sl} {h : ρ → R} {o : ρ → List Sl} {g : ρ → Nv} (hq : FqL n (Φ f ss) h o) (e1 : arrO sh os = some os') (e2 : slotsOf nv os' = some ss) (e3 : decide (brws os').Nodup = true) (e4 : ∀ c, putBack nv os' (o c) = some (g c)) (hk : ∀ c, L X (m' c) (k (h c) (g c)) Q) : L X (n.nox.bind m') ((callOn Φ f sh os nv).bind k) Q := by
  unfold callOn
  rw [e1]
  dsimp only
  rw [e2]
  dsimp only
  rw [if_pos (of_decide_eq_true e3)]
  cases n with
  | ok c =>
    have hq : Φ f ss = .ok (h c) (o c) := hq.un
    rw [hq]
    dsimp only
    rw [e4 c]
    exact hk c
  | exc c as => exact l_no
  | no => exact l_no
/-! methods that change a list -/
def mthEnd (m : Mt) (i : Nat) (os : List (D ⊕ Nat)) (nv1 : Nv) : Rs R := match inls os, nv1[i]? with
  | some ds, some (some (.lv (.l f) xs)) => match mthD m xs ds with
    | some (y, ys) => .ok (.val y) (nv1.set i (some (.lv (.l f) ys)))
    | none => .stuck
  | _, _ => .stuck
theorem x_mth {me : Mt} {i : Nat} {es : List E} {f : Bool} {xs : List D} (e : nv[i]? = some (some (.lv (.l f) xs))) (h : L X m ((evOs Φ shs es nv).bind fun os nv1 => (mthEnd me i os nv1).bind k) Q) : L X m ((evE Φ shs (.mth me i es) nv).bind k) Q := by
  rw [evE, mthOn, e]
  dsimp only
  rw [rbind_assoc]; exact h
theorem z_app {i : Nat} {y : D} {f : Bool} {xs : List D} {g : List D → Nv} {m' : List D → Z γ} (e : nv[i]? = some (some (.lv (.l f) xs))) (e1 : ∀ ys, nv.set i (some (.lv (.l f) ys)) = g ys) (hk : ∀ ys, L X (m' ys) (k (.val .non) (g ys)) Q) : L X ((zapp xs y).bind m') ((mthEnd .app i [.inl y] nv).bind k) Q := by
  unfold mthEnd zapp
  rw [e]
  simp only [inls, Option.map_some, mthD]
  split
  · have := hk (xs ++ [y])
    rw [← e1] at this
    exact this
  · exact l_no
theorem z_mth {me : Mt} {i : Nat} {os : List (D ⊕ Nat)} {ds : List D} {f : Bool} {xs : List D} {g : List D → Nv} {m' : D × List D → Z γ} (h1 : inls os = some ds) (e : nv[i]? = some (some (.lv (.l f) xs))) (e1 : ∀ ys, nv.set i (some (.lv (.l f) ys)) = g ys) (hk : ∀ p, L X (m' p) (k (.val p.1) (g p.2)) Q) : L X ((zmth me xs ds).bind m') ((mthEnd me i os nv).bind k) Q := by
  unfold mthEnd zmth
  rw [h1, e]
  dsimp only
  cases mthD me xs ds with
  | none => exact l_no
  | some p =>
    have := hk p
    rw [← e1] at this
    exact this
end
end
end
end G
namespace G
noncomputable section
open PySem L2
section
variable {α γ δ τ σ ρ : Type} {X : Nv → Prop} {m m1 m2 : Z γ} {Q : γ → Rs Fl → Prop} {Φ : Fn} {shs : Nat → Nat → Shape} {nv nv1 : Nv} {ss : List S}
theorem evB_append : ∀ (a b : List S) (nv : Nv), evB Φ shs (a ++ b) nv = (evB Φ shs a nv).bind fun f nv1 => match f with
    | .nx => evB Φ shs b nv1
    | f => .ok f nv1
  | [], b, nv => by rw [evB]; rfl
  | s :: a, b, nv => by
    rw [List.cons_append, evB, evB, rbind_assoc]
    congr 1
    funext f nv1
    cases f with
    | nx => exact evB_append a b nv1
    | _ => rfl
theorem b_nil (h : L X m (.ok .nx nv) Q) : L X m (evB Φ shs [] nv) Q := by rw [evB]; exact h
theorem b_asg {t : T} {e : E} (h : L X m ((evE Φ shs e nv).bind fun r nv1 => (asgR t r nv1).bind fun _ nv2 => evB Φ shs ss nv2) Q) : L X m (evB Φ shs (.asg t e :: ss) nv) Q := by
  rw [evB, evS]
  simp only [rbind_assoc, bind_ok]
  exact h
theorem b_expr {e : E} (h : L X m ((evE Φ shs e nv).bind fun _ nv1 => evB Φ shs ss nv1) Q) : L X m (evB Φ shs (.expr e :: ss) nv) Q := by
  rw [evB, evS]
  simp only [rbind_assoc, bind_ok]
  exact h
theorem b_ret {e : E} (h : L X m ((evE Φ shs e nv).bind fun r nv1 => .ok (.ret r) nv1) Q) : L X m (evB Φ shs (.ret e :: ss) nv) Q := by
  rw [evB, evS]
  simp only [rbind_assoc, bind_ok]
  exact h
theorem b_brk (h : L X m (.ok .brk nv) Q) : L X m (evB Φ shs (.brk :: ss) nv) Q := by
  rw [evB, evS]; exact h
theorem b_kill {is : List Nat} (e : wipeN nv is = nv1) (h : L X m (evB Φ shs ss nv1) Q) : L X m (evB Φ shs (.kill is :: ss) nv) Q := by
  subst e
  rw [evB, evS]; exact h
theorem b_rse {c : Nat} (x : X nv) : L X (.exc c [] : Z γ) (evB Φ shs (.rse c :: ss) nv) Q := by
  rw [evB, evS]; exact ⟨nv, x, rfl⟩
theorem b_aug {i : Nat} {p : P2} {e : E} {d : D} (q : nv[i]? = some (some (.val d))) (h : L X m ((evE Φ shs e nv).bind fun r nv1 => (Rs.of (pAug p d r.frz) nv1).bind fun r2 nv2 => (stSlot i r2.slot nv2).bind fun _ nv3 => evB Φ shs ss nv3) Q) : L X m (evB Φ shs (.aug i p e :: ss) nv) Q := by
  rw [evB, evS, q]
  simp only [rbind_assoc, bind_ok]
  exact h
theorem z_aug {p : P2} {d e : D} {k : R → Nv → Rs Fl} {m' : D → Z γ} (hk : ∀ r, L X (m' r) (k (.val r) nv) Q) : L X ((zaug p d e).bind m') ((Rs.of (pAug p d e) nv).bind k) Q := by
  unfold zaug
  cases pAug p d e with
  | none => exact l_no
  | some r => cases r with
    | val r => exact hk r
    | own ds => exact l_no
theorem s_slot {i : Nat} {s : Sl} {k : Unit → Nv → Rs Fl} (e : stSlot i s nv = .ok () nv1) (h : L X m (k () nv1) Q) : L X m ((stSlot i s nv).bind k) Q := by
  rw [e]; exact h
theorem s_asg {t : T} {r : R} {k : Unit → Nv → Rs Fl} (e : asgR t r nv = .ok () nv1) (h : L X m (k () nv1) Q) : L X m ((asgR t r nv).bind k) Q := by
  rw [e]; exact h
end
section
variable {α γ δ τ σ ρ : Type} {X : Nv → Prop} {m m1 m2 : Z γ} {Q : γ → Rs α → Prop} {Φ : Fn} {shs : Nat → Nat → Shape} {nv nv1 : Nv} {ss : List S}
theorem a_nm {i : Nat} {d : D} {k : Unit → Nv → Rs α} (e : stSlot i (.val d) nv = .ok () nv1) (h : L X m (k () nv1) Q) : L X m ((asgD (.nm i) d nv).bind k) Q := by
  rw [asgD, e]; exact h
theorem a_two {a b : T} {d : D} {k : Unit → Nv → Rs α} {m' : D × D → Z γ} (h : ∀ p : D × D, L X (m' p) ((asgD a p.1 nv).bind fun _ nv1 => (asgD b p.2 nv1).bind k) Q) : L X ((zun2 d).bind m') ((asgD (.two a b) d nv).bind k) Q := by
  match d with
  | .tup [x, y] =>
    rw [asgD, rbind_assoc]
    exact h (x, y)
  | .tup [] => exact l_no
  | .tup [x] => exact l_no
  | .tup (x :: y :: z :: r) => exact l_no
  | .non => exact l_no
  | .bl _ => exact l_no
  | .int _ => exact l_no
  | .str _ => exact l_no
  | .lst _ => exact l_no
  | .scr _ => exact l_no
  | .dct _ _ => exact l_no
theorem a_three {a b c : T} {d : D} {k : Unit → Nv → Rs α} {m' : D × D × D → Z γ} (h : ∀ p : D × D × D, L X (m' p) ((asgD a p.1 nv).bind fun _ nv1 => (asgD b p.2.1 nv1).bind fun _ nv2 => (asgD c p.2.2 nv2).bind k) Q) : L X ((zun3 d).bind m') ((asgD (.three a b c) d nv).bind k) Q := by
  match d with
  | .tup [x, y, z] =>
    rw [asgD]
    simp only [rbind_assoc]
    exact h (x, y, z)
  | .tup [] => exact l_no
  | .tup [x] => exact l_no
  | .tup [x, y] => exact l_no
  | .tup (x :: y :: z :: u :: r) => exact l_no
  | .non => exact l_no
  | .bl _ => exact l_no
  | .int _ => exact l_no
  | .str _ => exact l_no
  | .lst _ => exact l_no
  | .scr _ => exact l_no
  | .dct _ _ => exact l_no
/-- an assignment to several names -/
theorem a_multi {t : T} {r : R} {k : Unit → Nv → Rs α} (tn : (match t with | .nm _ => false | _ => true) = true) (h : L X m ((asgD t r.frz nv).bind k) Q) : L X m ((asgR t r nv).bind k) Q := by
  have : asgR t r nv = asgD t r.frz nv := by cases t <;> first | rfl | (cases tn)
  rw [this]; exact h
end
section
variable {α γ δ τ σ ρ : Type} {X : Nv → Prop} {m m1 m2 : Z γ} {Q : γ → Rs Fl → Prop} {Φ : Fn} {shs : Nat → Nat → Shape} {nv nv1 : Nv} {ss : List S}
def kSti (Φ : Fn) (shs : Nat → Nat → Shape) (i : Nat) (ix : E) (ss : List S) (r : R) (nv1 : Nv) : Rs Fl := match nv1[i]? with
    | some (some (.lv (.l _) _)) => (evE Φ shs ix nv1).bind fun k nv2 => (stIx i k.frz r.frz nv2).bind fun _ nv3 => evB Φ shs ss nv3
    | _ => .stuck
theorem b_sti {i : Nat} {ix e : E} (h : L X m ((evE Φ shs e nv).bind (kSti Φ shs i ix ss)) Q) : L X m (evB Φ shs (.sti i ix e :: ss) nv) Q := by
  rw [evB, evS, rbind_assoc]
  refine Eq.mp (congrArg (fun z => L X m z Q) ?_) h
  congr 1
  funext r nv1
  unfold kSti
  cases nv1[i]? with
  | none => rfl
  | some o => cases o with
    | none => rfl
    | some s => cases s with
      | val d => rfl
      | fn m ds => rfl
      | lv f xs => cases f with
        | dict ks => rfl
        | l b =>
          dsimp only
          simp only [rbind_assoc, bind_ok]
theorem s_sti {i : Nat} {ix : E} {r : R} {f : Bool} {xs : List D} (q : nv[i]? = some (some (.lv (.l f) xs))) (h : L X m ((evE Φ shs ix nv).bind fun k nv2 => (stIx i k.frz r.frz nv2).bind fun _ nv3 => evB Φ shs ss nv3) Q) : L X m (kSti Φ shs i ix ss r nv) Q := by
  unfold kSti
  rw [q]; exact h
theorem z_st {i : Nat} {kd d : D} {f : Bool} {xs : List D} {g : List D → Nv} {k : Unit → Nv → Rs Fl} {m' : List D → Z γ} (q : nv[i]? = some (some (.lv (.l f) xs))) (e1 : ∀ ys, nv.set i (some (.lv (.l f) ys)) = g ys) (hk : ∀ ys, L X (m' ys) (k () (g ys)) Q) : L X ((zst xs kd d).bind m') ((stIx i kd d nv).bind k) Q := by
  unfold zst stIx
  rw [q]
  cases kd with
  | int n =>
    dsimp only
    cases ixN xs.length n with
    | none => exact l_no
    | some j =>
      have := hk (xs.set j d)
      rw [← e1] at this
      exact this
  | _ => exact l_no
/-! if -/
def kIf (Φ : Fn) (shs : Nat → Nat → Shape) (a b ss : List S) (r : R) (nv1 : Nv) : Rs Fl := match r with
  | .val (.bl true) => evB Φ shs (a ++ ss) nv1
  | .val (.bl false) => evB Φ shs (b ++ ss) nv1
  | _ => .stuck
theorem b_ife {c : E} {a b : List S} (h : L X m ((evE Φ shs c nv).bind (kIf Φ shs a b ss)) Q) : L X m (evB Φ shs (.ife c a b :: ss) nv) Q := by
  rw [evB, evS, rbind_assoc]
  refine Eq.mp (congrArg (fun z => L X m z Q) ?_) h
  congr 1
  funext r nv1
  unfold kIf
  cases r with
  | own ds => rfl
  | val d =>
    cases d with
    | bl v => cases v with
      | true => exact evB_append a ss nv1
      | false => exact evB_append b ss nv1
    | _ => rfl
theorem z_ife {a b : List S} {d : D} (ha : L X m1 (evB Φ shs (a ++ ss) nv) Q) (hb : L X m2 (evB Φ shs (b ++ ss) nv) Q) : L X (zite d m1 m2) (kIf Φ shs a b ss (.val d) nv) Q := by
  cases d with
  | bl v => cases v with
    | true => exact ha
    | false => exact hb
  | _ => exact l_no
/-- a block that runs through: a reading s, the slots by g -/
def QJ (g : τ → Nv) (s : τ) (r : Rs Fl) : Prop := r = .ok .nx (g s)
theorem qj_ok {g : τ → Nv} {s : τ} (e : g s = nv) : L X (.ok s) (Rs.ok Fl.nx nv) (QJ g) := by subst e; exact ⟨rfl⟩
theorem z_ifj {a b : List S} {d : D} {ma mb : Z τ} {g : τ → Nv} {m' : τ → Z γ} (ha : L X ma (evB Φ shs a nv) (QJ g)) (hb : L X mb (evB Φ shs b nv) (QJ g)) (hk : ∀ s, L X (m' s) (evB Φ shs ss (g s)) Q) : L X ((zite d ma mb).bind m') (kIf Φ shs a b ss (.val d) nv) Q := by
  cases d with
  | bl v => cases v with
    | true =>
      show L X (ma.bind m') (evB Φ shs (a ++ ss) nv) Q
      rw [evB_append]
      exact l_bind ha fun c q => by rw [q]; exact hk c
    | false =>
      show L X (mb.bind m') (evB Φ shs (b ++ ss) nv) Q
      rw [evB_append]
      exact l_bind hb fun c q => by rw [q]; exact hk c
  | _ => exact l_no
/-! the end of a body -/
def QF (h : ρ → R) (O : ρ → Nv → Prop) (c : ρ) (r : Rs Fl) : Prop := ∃ nv, O c nv ∧ (r = .ok (.ret (h c)) nv ∨ (r = .ok .nx nv ∧ h c = .val .non))
theorem qf_ret {h : ρ → R} {O : ρ → Nv → Prop} {c : ρ} {r : R} (e : h c = r) (o : O c nv) : L X (.ok c) (Rs.ok (.ret r) nv) (QF h O) := by
  subst e; exact ⟨⟨nv, o, .inl rfl⟩⟩
/-! loops -/
def QN (g : σ → Nv) (s : σ) (r : Rs Fl) : Prop := r = .ok .nx (g s) ∨ r = .ok .cnt (g s)
theorem qn_nx {g : σ → Nv} {s : σ} (e : g s = nv) : L X (.ok s) (Rs.ok Fl.nx nv) (QN g) := by subst e; exact ⟨.inl rfl⟩
def QL (g : σ → Nv) (h : ρ → R) (O : ρ → Nv → Prop) (c : Fz σ ρ) (r : Rs Fl) : Prop := match c with
  | .nx s => r = .ok .nx (g s) ∨ r = .ok .cnt (g s)
  | .brk s => r = .ok .brk (g s)
  | .ret c => ∃ nv, O c nv ∧ r = .ok (.ret (h c)) nv
theorem ql_nx {g : σ → Nv} {h : ρ → R} {O : ρ → Nv → Prop} {s : σ} (e : g s = nv) : L X (.ok (.nx s)) (Rs.ok Fl.nx nv) (QL g h O) := by subst e; exact ⟨.inl rfl⟩
theorem ql_brk {g : σ → Nv} {h : ρ → R} {O : ρ → Nv → Prop} {s : σ} (e : g s = nv) : L X (.ok (.brk s)) (Rs.ok Fl.brk nv) (QL g h O) := by subst e; exact ⟨rfl⟩
theorem ql_ret {g : σ → Nv} {h : ρ → R} {O : ρ → Nv → Prop} {c : ρ} {r : R} (e : h c = r) (o : O c nv) : L X (.ok (.ret c)) (Rs.ok (.ret r) nv) (QL g h O) := by subst e; exact ⟨⟨nv, o, rfl⟩⟩
theorem fold_l {g : σ → Nv} {f : D → σ → Z σ} {body : D → Nv → Rs Fl} (hb : ∀ d s, L X (f d s) (body d (g s)) (QN g)) : ∀ (xs : List D) (s : σ), L X (foldZ f xs s) (forLoop body xs (g s)) (QJ g)
  | [], s => ⟨rfl⟩
  | d :: ds, s => by
    have h1 := hb d s
    simp only [foldZ, forLoop]
    refine l_bind h1 fun c q => ?_
    rcases q with q | q <;> (rw [q]; exact fold_l hb ds c)
theorem for_l {g : σ → Nv} {h : ρ → R} {O : ρ → Nv → Prop} {f : D → σ → Z (Fz σ ρ)} {body : D → Nv → Rs Fl} (hb : ∀ d s, L X (f d s) (body d (g s)) (QL g h O)) : ∀ (xs : List D) (s : σ), L X (forZ f xs s) (forLoop body xs (g s)) (fun c r => match c with
    | .nx s => r = .ok .nx (g s)
    | .brk s => False
    | .ret c => ∃ nv, O c nv ∧ r = .ok (.ret (h c)) nv)
  | [], s => ⟨rfl⟩
  | d :: ds, s => by
    have h1 := hb d s
    simp only [forZ, forLoop]
    refine l_bind h1 fun c q => ?_
    cases c with
    | nx s => rcases q with q | q <;> (rw [q]; exact for_l hb ds s)
    | brk s =>
      have q : _ = _ := q
      rw [q]
      exact ⟨(rfl : Rs.ok Fl.nx (g s) = _)⟩
    | ret c =>
      obtain ⟨nv, o, q⟩ := q
      rw [q]
      exact ⟨nv, o, rfl⟩
def kFor (Φ : Fn) (shs : Nat → Nat → Shape) (t : T) (k : Ik) (body ss : List S) (os : List (D ⊕ Nat)) (nv1 : Nv) : Rs Fl := match items k os with
    | none => .stuck
    | some xs => (forLoop (fun d nv => (asgD t d nv).bind fun _ nv2 => evB Φ shs body nv2) xs nv1).bind fun f nv1 => match f with
      | .nx => evB Φ shs ss nv1
      | f => .ok f nv1
theorem b_for {t : T} {k : Ik} {es : List E} {body : List S} (h : L X m ((evOs Φ shs es nv).bind (kFor Φ shs t k body ss)) Q) : L X m (evB Φ shs (.for_ t k es body :: ss) nv) Q := by
  rw [evB, evS, rbind_assoc]
  refine Eq.mp (congrArg (fun z => L X m z Q) ?_) h
  congr 1
  funext os nv1
  unfold kFor
  cases items k os with
  | none => rfl
  | some xs => rfl
theorem z_fold {t : T} {k : Ik} {os : List (D ⊕ Nat)} {ds : List D} {body : List S} {g : σ → Nv} {f : D → σ → Z σ} {s0 : σ} {m' : σ → Z γ} (e : os = ds.map .inl) (e0 : g s0 = nv) (hb : ∀ d s, L X (f d s) ((asgD t d (g s)).bind fun _ nv2 => evB Φ shs body nv2) (QN g)) (hk : ∀ s, L X (m' s) (evB Φ shs ss (g s)) Q) : L X ((itD k ds).bind fun xs => (foldZ f xs s0).bind m') (kFor Φ shs t k body ss os nv) Q := by
  subst e; subst e0
  unfold itD kFor
  cases items k (ds.map .inl) with
  | none => exact l_no
  | some xs =>
    show L X ((foldZ f xs s0).bind m') _ Q
    exact l_bind (fold_l hb xs s0) fun c (q : _ = _) => by rw [q]; exact hk c
theorem z_for {t : T} {k : Ik} {os : List (D ⊕ Nat)} {ds : List D} {body : List S} {g : σ → Nv} {h : ρ → R} {O : ρ → Nv → Prop} {f : D → σ → Z (Fz σ ρ)} {s0 : σ} {m1 : σ → Z γ} {m2 : ρ → Z γ} (e : os = ds.map .inl) (e0 : g s0 = nv) (hb : ∀ d s, L X (f d s) ((asgD t d (g s)).bind fun _ nv2 => evB Φ shs body nv2) (QL g h O)) (hk : ∀ s, L X (m1 s) (evB Φ shs ss (g s)) Q) (hr : ∀ c nv, O c nv → L X (m2 c) (Rs.ok (.ret (h c)) nv) Q) : L X ((itD k ds).bind fun xs => (forZ f xs s0).bind fun c => zfl c m1 m2) (kFor Φ shs t k body ss os nv) Q := by
  subst e; subst e0
  unfold itD kFor
  cases items k (ds.map .inl) with
  | none => exact l_no
  | some xs =>
    show L X ((forZ f xs s0).bind fun c => zfl c m1 m2) _ Q
    refine l_bind (for_l hb xs s0) fun c q => ?_
    cases c with
    | nx s =>
      have q : _ = _ := q
      rw [q]; exact hk s
    | brk s => exact q.elim
    | ret c =>
      obtain ⟨nv, o, q⟩ := q
      rw [q]; exact hr c nv o
end
/-! comprehensions -/
section
variable {α γ δ τ σ ρ : Type} {X : Nv → Prop} {m m1 m2 : Z γ} {Q : γ → Rs α → Prop} {Φ : Fn} {shs : Nat → Nat → Shape} {nv nv1 : Nv} {k : R → Nv → Rs α}
def turnE (Φ : Fn) (shs : Nat → Nat → Shape) (t : T) (cs : List E) (elt : E) (own : List Nat) (d : D) (nv : Nv) : Rs (Option D) := (asgD t d nv).bind fun _ nv2 => (evCs Φ shs cs nv2).bind fun b nv3 =>
        if b = true then (evE Φ shs elt nv3).bind fun r nv4 => .ok (some r.frz) (wipeN nv4 own) else .ok none (wipeN nv3 own)
def kComp (Φ : Fn) (shs : Nat → Nat → Shape) (t : T) (ik : Ik) (cs : List E) (elt : E) (own : List Nat) (k : R → Nv → Rs α) (os : List (D ⊕ Nat)) (nv1 : Nv) : Rs α := match items ik os with
    | none => .stuck
    | some xs => (compLoop (turnE Φ shs t cs elt own) xs [] (wipeN nv1 own)).nox.bind fun ys nv5 => k (.own ys) (back nv1 nv5 own)
theorem x_comp {t : T} {ik : Ik} {es cs : List E} {elt : E} {own : List Nat} (h : L X m ((evOs Φ shs es nv).bind (kComp Φ shs t ik cs elt own k)) Q) : L X m ((evE Φ shs (.comp t ik es cs elt own) nv).bind k) Q := by
  rw [evE, rbind_assoc]
  refine Eq.mp (congrArg (fun z => L X m z Q) ?_) h
  congr 1
  funext os nv1
  unfold kComp
  cases items ik os with
  | none => rfl
  | some xs =>
    dsimp only
    rw [rbind_assoc]
    rfl
theorem compS_l {g : σ → Nv} {f : D → σ → Z (Option D × σ)} {turn : D → Nv → Rs (Option D)} (hb : ∀ d s, L X (f d s) (turn d (g s)) (fun p r => r = .ok p.1 (g p.2))) : ∀ (xs acc : List D) (s : σ), acc.length + xs.length ≤ SZ → ∀ p, compS' f xs s = .ok p → compLoop turn xs acc (g s) = .ok (acc ++ p.1) (g p.2)
  | [], acc, s, hl, p, e => by
    simp only [compS', Z.ok.injEq] at e
    subst e
    simp [compLoop]
  | d :: ds, acc, s, hl, p, e => by
    simp only [compS'] at e
    have h1 := hb d s
    cases e1 : f d s with
    | ok q =>
      rw [e1] at e h1
      have h1 : turn d (g s) = .ok q.1 (g q.2) := h1.un
      simp only [compLoop, h1]
      have e : (compS' f ds q.2).bind _ = _ := e
      cases e2 : compS' f ds q.2 with
      | ok u =>
        rw [e2] at e
        have e : Z.ok _ = Z.ok p := e
        simp only [Z.ok.injEq] at e
        subst e
        obtain ⟨y, s'⟩ := q
        have hl' : acc.length + (ds.length + 1) ≤ SZ := by simpa using hl
        cases y with
        | some y =>
          show (if acc.length < SZ then compLoop turn ds (acc ++ [y]) (g s') else .stuck) = _
          rw [if_pos (by omega), compS_l hb ds (acc ++ [y]) s' (by simp; omega) u e2]
          simp
        | none =>
          show compLoop turn ds acc (g s') = _
          rw [compS_l hb ds acc s' (by omega) u e2]
      | exc c as => rw [e2] at e; cases e
      | no => rw [e2] at e; cases e
    | exc c as => rw [e1] at e; cases e
    | no => rw [e1] at e; cases e
theorem z_compS {t : T} {ik : Ik} {os : List (D ⊕ Nat)} {ds : List D} {cs : List E} {elt : E} {own : List Nat} {g g2 : σ → Nv} {f : D → σ → Z (Option D × σ)} {s0 : σ} {m' : List D × σ → Z γ} (e : os = ds.map .inl) (e0 : wipeN nv own = g s0) (e1 : ∀ s, back nv (g s) own = g2 s) (hb : ∀ d s, L (fun _ => True) (f d s) (turnE Φ shs t cs elt own d (g s)) (fun p r => r = .ok p.1 (g p.2))) (hk : ∀ p, L X (m' p) (k (.own p.1) (g2 p.2)) Q) : L X ((itD ik ds).bind fun xs => (compS f xs s0).bind m') (kComp Φ shs t ik cs elt own k os nv) Q := by
  subst e
  unfold itD kComp
  cases items ik (ds.map .inl) with
  | none => exact l_no
  | some xs =>
    show L X ((compS f xs s0).bind m') ((compLoop (turnE Φ shs t cs elt own) xs [] (wipeN nv own)).nox.bind _) Q
    unfold compS
    split
    · rename_i hl
      rw [e0]
      cases e2 : compS' f xs s0 with
      | ok p =>
        rw [compS_l hb xs [] s0 (by simpa using hl) p e2]
        show L X (m' p) (k (.own ([] ++ p.1)) (back nv (g p.2) own)) Q
        rw [e1]
        exact hk p
      | exc c as => exact l_no
      | no => exact l_no
    · exact l_no
theorem mapS_comp {f : D → σ → Z (D × σ)} : ∀ (xs : List D) (s : σ), compS' (fun d s => (f d s).bind fun p => .ok (some p.1, p.2)) xs s = mapS' f xs s
  | [], s => rfl
  | d :: ds, s => by
    simp only [compS', mapS']
    cases f d s with
    | ok p =>
      show (compS' _ ds p.2).bind _ = (mapS' f ds p.2).bind _
      rw [mapS_comp ds p.2]
    | exc c as => rfl
    | no => rfl
theorem z_mapS {t : T} {ik : Ik} {os : List (D ⊕ Nat)} {ds : List D} {cs : List E} {elt : E} {own : List Nat} {g g2 : σ → Nv} {f : D → σ → Z (D × σ)} {s0 : σ} {m' : List D × σ → Z γ} (e : os = ds.map .inl) (e0 : wipeN nv own = g s0) (e1 : ∀ s, back nv (g s) own = g2 s) (hb : ∀ d s, L (fun _ => True) (f d s) (turnE Φ shs t cs elt own d (g s)) (fun p r => r = .ok (some p.1) (g p.2))) (hk : ∀ p, L X (m' p) (k (.own p.1) (g2 p.2)) Q) : L X ((itD ik ds).bind fun xs => (mapS f xs s0).bind m') (kComp Φ shs t ik cs elt own k os nv) Q := by
  have : ∀ xs, mapS f xs s0 = compS (fun d s => (f d s).bind fun p => .ok (some p.1, p.2)) xs s0 := fun xs => by unfold mapS compS; rw [mapS_comp]
  simp only [this]
  refine z_compS e e0 e1 (fun d s => ?_) hk
  have h := hb d s
  cases e : f d s with
  | ok p => rw [e] at h; exact ⟨h.un⟩
  | exc c as => rw [e] at h; exact ⟨h.un⟩
  | no => exact l_no
theorem comp_unit {f : D → Z (Option D)} : ∀ (xs : List D), compS' (fun d (_ : Unit) => (f d).bind fun p => .ok (p, ())) xs () = (compZ' f xs).bind fun ys => .ok (ys, ())
  | [] => rfl
  | d :: ds => by
    simp only [compS', compZ']
    cases f d with
    | ok p =>
      show (compS' _ ds ()).bind _ = ((compZ' f ds).bind _).bind _
      rw [comp_unit ds]
      cases compZ' f ds <;> rfl
    | exc c as => rfl
    | no => rfl
theorem z_comp {t : T} {ik : Ik} {os : List (D ⊕ Nat)} {ds : List D} {cs : List E} {elt : E} {own : List Nat} {f : D → Z (Option D)} {m' : List D → Z γ} (nv2 : Nv) (e : os = ds.map .inl) (e0 : wipeN nv own = nv2) (e1 : back nv nv2 own = nv) (hb : ∀ d, L (fun _ => True) (f d) (turnE Φ shs t cs elt own d nv2) (fun p r => r = .ok p nv2)) (hk : ∀ p, L X (m' p) (k (.own p) nv) Q) : L X ((itD ik ds).bind fun xs => (compZ f xs).bind m') (kComp Φ shs t ik cs elt own k os nv) Q := by
  have h := z_compS (t := t) (ik := ik) (cs := cs) (elt := elt) (own := own) (g := fun _ : Unit => nv2) (g2 := fun _ => nv) (f := fun d _ => (f d).bind fun p => .ok (p, ())) (s0 := ()) (m' := fun p => m' p.1) (Φ := Φ) (shs := shs) (k := k) (X := X) (Q := Q) (nv := nv) e e0 (fun _ => e1) (fun d _ => by
    have h := hb d
    cases e : f d with
    | ok p => rw [e] at h; exact ⟨h.un⟩
    | exc c as => rw [e] at h; exact ⟨h.un⟩
    | no => exact l_no) (fun p => hk p.1)
  have : ∀ xs, (compS (fun d (_ : Unit) => (f d).bind fun p => .ok (p, ())) xs ()).bind (fun p => m' p.1) = (compZ f xs).bind m' := fun xs => by
    unfold compS compZ
    rw [comp_unit]
    split
    · cases compZ' f xs <;> rfl
    · rfl
  simpa only [this] using h
theorem map_unit {f : D → Z D} : ∀ (xs : List D), compZ' (fun d => (f d).bind fun p => .ok (some p)) xs = mapZ' f xs
  | [] => rfl
  | d :: ds => by
    simp only [compZ', mapZ']
    cases f d with
    | ok p =>
      show (compZ' _ ds).bind _ = (mapZ' f ds).bind _
      rw [map_unit ds]
    | exc c as => rfl
    | no => rfl
theorem z_map {t : T} {ik : Ik} {os : List (D ⊕ Nat)} {ds : List D} {cs : List E} {elt : E} {own : List Nat} {f : D → Z D} {m' : List D → Z γ} (nv2 : Nv) (e : os = ds.map .inl) (e0 : wipeN nv own = nv2) (e1 : back nv nv2 own = nv) (hb : ∀ d, L (fun _ => True) (f d) (turnE Φ shs t cs elt own d nv2) (fun p r => r = .ok (some p) nv2)) (hk : ∀ p, L X (m' p) (k (.own p) nv) Q) : L X ((itD ik ds).bind fun xs => (mapZ f xs).bind m') (kComp Φ shs t ik cs elt own k os nv) Q := by
  have : ∀ xs, mapZ f xs = compZ (fun d => (f d).bind fun p => .ok (some p)) xs := fun xs => by unfold mapZ compZ; rw [map_unit]
  simp only [this]
  refine z_comp nv2 e e0 e1 (fun d => ?_) hk
  have h := hb d
  cases e : f d with
  | ok p => rw [e] at h; exact ⟨h.un⟩
  | exc c as => rw [e] at h; exact ⟨h.un⟩
  | no => exact l_no
/-- the element -/
theorem t_go {t : T} {cs : List E} {elt : E} {own : List Nat} {d : D} {m : Z γ} {Q : γ → Rs (Option D) → Prop} (h : L X m ((asgD t d nv).bind fun _ nv2 => (evCs Φ shs cs nv2).bind fun b nv3 =>
        if b = true then (evE Φ shs elt nv3).bind fun r nv4 => .ok (some r.frz) (wipeN nv4 own) else .ok none (wipeN nv3 own)) Q) : L X m (turnE Φ shs t cs elt own d nv) Q := h
theorem c_nil {k : Bool → Nv → Rs α} (h : L X m (k true nv) Q) : L X m ((evCs Φ shs [] nv).bind k) Q := by rw [evCs]; exact h
theorem t_true {elt : E} {own : List Nat} {Q : γ → Rs (Option D) → Prop} (h : L X m ((evE Φ shs elt nv).bind fun r nv4 => .ok (some r.frz) (wipeN nv4 own)) Q) : L X m (if (true = true) then (evE Φ shs elt nv).bind fun r nv4 => .ok (some r.frz) (wipeN nv4 own) else .ok none (wipeN nv own)) Q := by
  rw [if_pos rfl]; exact h
theorem qt {s : γ} {o : Option D} {Q : γ → Rs (Option D) → Prop} (h : Q s (.ok o nv)) : L X (.ok s) (Rs.ok o nv) Q := ⟨h⟩
end
/-! defs -/
section
variable {ρ : Type} {Φ : Fn} {shs : Nat → Nat → Shape}
theorem fq_pure {d : Df} {m : Z ρ} {h : ρ → R} {ds : List D} (hp : d.pr = []) (hb : L (fun _ => True) m (evB Φ shs d.body (startNv d.n (ds.map .val))) (QF h (fun _ _ => True))) : FqP m (runDf Φ shs d (ds.map .val)) h (ds.map .val) := by
  have lk : lentOk d.pr (ds.map .val) = true := by
    unfold lentOk
    rw [List.all_eq_true]
    intro p hp
    rw [List.getElem?_map]
    cases ds[p]? <;> rfl
  have oo : ∀ nv, outsOf d.pr (ds.map .val) nv = some (ds.map .val) := by
    intro nv
    rw [hp]
    unfold outsOf
    have : ∀ (ss : List Sl) (n : Nat), n ≤ ss.length → (List.range n).mapM (fun p => if ([] : List Nat).contains p = true then nv[p]?.join else ss[p]?) = some (ss.take n) := by
      intro ss n hn
      induction n with
      | zero => simp
      | succ n ih =>
        rw [List.range_succ, List.mapM_append, ih (by omega)]
        have hn' : n < ss.length := by omega
        rw [List.take_succ]
        simp [List.getElem?_eq_getElem hn']
    rw [this _ _ (Nat.le_refl _), List.take_length]
  unfold runDf
  rw [if_pos lk]
  refine ⟨?_⟩
  cases m with
  | ok c =>
    obtain ⟨nv, _, q | ⟨q, e⟩⟩ := hb.un
    · rw [q]
      simp only [endDf, oo]
    · rw [q]
      simp only [endDf, oo]
      show Cr.ok _ _ = Cr.ok _ _
      rw [e]
  | exc c as =>
    obtain ⟨e, _, q⟩ := hb.un
    rw [q]
    simp only [endDf, oo]
  | no => trivial
theorem fq_lent {d : Df} {X : Nv → Prop} {m : Z ρ} {h : ρ → R} {o : ρ → List Sl} {ss : List Sl} (lk : lentOk d.pr ss = true) (hb : L X m (evB Φ shs d.body (startNv d.n ss)) (QF h (fun c nv => outsOf d.pr ss nv = some (o c)))) : FqL m (runDf Φ shs d ss) h o := by
  unfold runDf
  rw [if_pos lk]
  refine ⟨?_⟩
  cases m with
  | ok c =>
    obtain ⟨nv, ho, q | ⟨q, e⟩⟩ := hb.un
    · rw [q]
      simp only [endDf, ho]
    · rw [q]
      simp only [endDf, ho]
      show Cr.ok _ _ = Cr.ok _ _
      rw [e]
  | exc c as => trivial
  | no => trivial
end
end
end G
namespace G
open PySem L2
/-! ### reasoning about plain readings -/
def Zw {α : Type} (m : Z α) (Q : α → Prop) : Prop := ∃ a, m = .ok a ∧ Q a
section
variable {α β σ ρ : Type} {Q : α → Prop}
theorem zw_ok {a : α} : Zw (.ok a) Q ↔ Q a := ⟨fun ⟨_, e, h⟩ => by cases e; exact h, fun h => ⟨a, rfl, h⟩⟩
theorem zw_no : Zw (.no : Z α) Q ↔ False := ⟨fun ⟨_, e, _⟩ => (nomatch e), False.elim⟩
theorem zw_exc {c : Nat} {as : List D} : Zw (.exc c as : Z α) Q ↔ False := ⟨fun ⟨_, e, _⟩ => (nomatch e), False.elim⟩
theorem zw_nox {m : Z α} : Zw m.nox Q ↔ Zw m Q := by
  cases m with
  | ok a => exact Iff.rfl
  | exc c as => exact ⟨fun ⟨_, e, _⟩ => (nomatch e), fun ⟨_, e, _⟩ => (nomatch e)⟩
  | no => exact Iff.rfl
theorem Zw.imp {m : Z α} {P : α → Prop} (h : Zw m P) (k : ∀ a, P a → Q a) : Zw m Q := by
  obtain ⟨a, e, h⟩ := h
  exact ⟨a, e, k a h⟩
theorem zc {m : Z β} {f : β → Z α} {P : β → Prop} (h : Zw m P) (k : ∀ a, P a → Zw (f a) Q) : Zw (m.bind f) Q := by
  obtain ⟨a, e, h⟩ := h
  subst e
  exact k a h
theorem zcn {m : Z β} {f : β → Z α} {P : β → Prop} (h : Zw m P) (k : ∀ a, P a → Zw (f a) Q) : Zw (m.nox.bind f) Q := zc (zw_nox.mpr h) k
theorem ze {m : Z β} {f : β → Z α} {b : β} (h : m = .ok b) (k : Zw (f b) Q) : Zw (m.bind f) Q := by subst h; exact k
theorem Zw.eq {m : Z α} {a : α} (h : Zw m fun x => x = a) : m = .ok a := by
  obtain ⟨x, e, rfl⟩ := h
  exact e
theorem bind_ok' {a : α} {f : α → Z β} : (Z.ok a).bind f = f a := rfl
theorem nox_ok {a : α} : (Z.ok a).nox = .ok a := id rfl
theorem bind_id {m : Z α} : (m.bind fun r => .ok r) = m := by cases m <;> rfl
/-! what single steps give -/
theorem add_i {a b : Int} : z2 .add (.int a) (.int b) = .ok (.int (a + b)) := id rfl
theorem sub_i {a b : Int} : z2 .sub (.int a) (.int b) = .ok (.int (a - b)) := id rfl
theorem lt_i {a b : Int} : z2 .lt (.int a) (.int b) = .ok (.bl (decide (a < b))) := id rfl
theorem le_i {a b : Int} : z2 .le (.int a) (.int b) = .ok (.bl (decide (a ≤ b))) := id rfl
theorem gt_i {a b : Int} : z2 .gt (.int a) (.int b) = .ok (.bl (decide (b < a))) := id rfl
theorem ge_i {a b : Int} : z2 .ge (.int a) (.int b) = .ok (.bl (decide (b ≤ a))) := id rfl
theorem eq_i {a b : Int} : z2 .eq (.int a) (.int b) = .ok (.bl (decide (a = b))) := id rfl
theorem ne_i {a b : Int} : z2 .ne (.int a) (.int b) = .ok (.bl (!decide (a = b))) := id rfl
theorem eq_s {a b : Str} : z2 .eq (.str a) (.str b) = .ok (.bl (decide (a = b))) := id rfl
theorem ne_s {a b : Str} : z2 .ne (.str a) (.str b) = .ok (.bl (!decide (a = b))) := id rfl
theorem eq_b {a b : Bool} : z2 .eq (.bl a) (.bl b) = .ok (.bl (decide (a = b))) := id rfl
theorem ne_b {a b : Bool} : z2 .ne (.bl a) (.bl b) = .ok (.bl (!decide (a = b))) := id rfl
theorem max_i {a b : Int} : z2 .max (.int a) (.int b) = .ok (.int (max a b)) := by
  show Z.ok (D.int (if b > a then b else a)) = _
  congr 2
  omega
theorem min_i {a b : Int} : z2 .min (.int a) (.int b) = .ok (.int (min a b)) := by
  show Z.ok (D.int (if b < a then b else a)) = _
  congr 2
  omega
theorem mod_i {a b : Int} (h : 0 < b) : z2 .mod (.int a) (.int b) = .ok (.int (a % b)) := by
  unfold z2 p2 pMod
  simp only [h, if_true, zval]
theorem fdiv_i {a b : Int} (h : 0 < b) (h2 : b < 1073741824) : z2 .fdiv (.int a) (.int b) = .ok (.int (a / b)) := by
  unfold z2 p2 pFdiv
  simp only [h, h2, and_self, if_true, zval]
theorem mul_i {a b : Int} (h : (-(2 ^ 64) < a ∧ a < 2 ^ 64) ∨ (-(2 ^ 64) < b ∧ b < 2 ^ 64)) : z2 .mul (.int a) (.int b) = .ok (.int (a * b)) := by
  unfold z2 p2 pMul
  simp only [h, if_true, zval]
theorem add_s {a b : Str} (h : a.length + b.length ≤ SZ) : z2 .add (.str a) (.str b) = .ok (.str (a ++ b)) := by
  unfold z2 p2 pAdd
  simp only [h, if_true, zval]
theorem add_t {a b : List D} (h : a.length + b.length ≤ SZ) : z2 .add (.tup a) (.tup b) = .ok (.tup (a ++ b)) := by
  unfold z2 p2 pAdd
  simp only [h, if_true, zval]
theorem ixN_nat {n k : Nat} (h : k < n) : ixN n (k : Int) = some k := by
  unfold ixN
  rw [if_pos (by omega), if_pos (by omega)]
  simp
theorem ix_t {xs : List D} {k : Nat} {d : D} (h : xs[k]? = some d) : z2 .ix (.tup xs) (.int k) = .ok d := by
  unfold z2 p2 pIx atI
  dsimp only
  rw [ixN_nat (List.getElem?_eq_some_iff.mp h).1]
  simp only [Option.bind_some, h, Option.map_some, zval]
theorem ix_l {xs : List D} {k : Nat} {d : D} (h : xs[k]? = some d) : z2 .ix (.lst xs) (.int k) = .ok d := by
  unfold z2 p2 pIx atI
  dsimp only
  rw [ixN_nat (List.getElem?_eq_some_iff.mp h).1]
  simp only [Option.bind_some, h, Option.map_some, zval]
theorem len_t {xs : List D} : z1 .len (.tup xs) = .ok (.int xs.length) := id rfl
theorem len_l {xs : List D} : z1 .len (.lst xs) = .ok (.int xs.length) := id rfl
theorem len_s {s : Str} (h : s.length ≤ SZ) : z1 .len (.str s) = .ok (.int s.length) := by
  unfold z1 p1 pLen
  simp only [h, if_true, zval]
theorem tr_b {b : Bool} : z1 .truth (.bl b) = .ok (.bl b) := id rfl
theorem tr_i {i : Int} : z1 .truth (.int i) = .ok (.bl (i != 0)) := id rfl
theorem tr_n : z1 .truth .non = .ok (.bl false) := id rfl
theorem tr_t {xs : List D} : z1 .truth (.tup xs) = .ok (.bl !xs.isEmpty) := id rfl
theorem tr_l {xs : List D} : z1 .truth (.lst xs) = .ok (.bl !xs.isEmpty) := id rfl
theorem isN_n : z1 .isN .non = .ok (.bl true) := id rfl
theorem isN_t {xs : List D} : z1 .isN (.tup xs) = .ok (.bl false) := id rfl
theorem isN_l {xs : List D} : z1 .isN (.lst xs) = .ok (.bl false) := id rfl
theorem isN_i {i : Int} : z1 .isN (.int i) = .ok (.bl false) := id rfl
theorem isN_s {i : Str} : z1 .isN (.str i) = .ok (.bl false) := id rfl
theorem isN_b {i : Bool} : z1 .isN (.bl i) = .ok (.bl false) := id rfl
theorem noN_n : z1 .notN .non = .ok (.bl false) := id rfl
theorem noN_t {xs : List D} : z1 .notN (.tup xs) = .ok (.bl true) := id rfl
theorem noN_l {xs : List D} : z1 .notN (.lst xs) = .ok (.bl true) := id rfl
theorem noN_i {i : Int} : z1 .notN (.int i) = .ok (.bl true) := id rfl
theorem noN_s {i : Str} : z1 .notN (.str i) = .ok (.bl true) := id rfl
theorem noN_b {i : Bool} : z1 .notN (.bl i) = .ok (.bl true) := id rfl
theorem tupl_l {xs : List D} : z1 .tupl (.lst xs) = .ok (.tup xs) := id rfl
theorem tupl_t {xs : List D} : z1 .tupl (.tup xs) = .ok (.tup xs) := id rfl
theorem list_t {xs : List D} : z1o .list (.tup xs) = .ok xs := id rfl
theorem list_l {xs : List D} : z1o .list (.lst xs) = .ok xs := id rfl
theorem int_i {i : Int} : z1 .int (.int i) = .ok (.int i) := id rfl
theorem neg_i {i : Int} : z1 .neg (.int i) = .ok (.int (-i)) := id rfl
theorem abs_i {i : Int} : z1 .abs (.int i) = .ok (.int (i.natAbs : Nat)) := by
  show Z.ok (D.int (if i < 0 then -i else i)) = _
  congr 2
  omega
theorem blsD_map : ∀ ns : List Bool, blsD (ns.map .bl) = some ns
  | [] => rfl
  | n :: ns => by simp only [List.map_cons, blsD, blsD_map ns, Option.map_some]
theorem all_bs {bs : List Bool} : z1 .all (.lst (bs.map .bl)) = .ok (.bl (bs.all id)) := by
  unfold z1 p1
  simp only [blsD_map, Option.map_some, zval]
theorem ite_b {b : Bool} {m n : Z α} : zite (.bl b) m n = if b = true then m else n := by cases b <;> rfl
theorem and_b {b : Bool} {m : Z D} : zand (.bl b) m = if b = true then m else .ok (.bl false) := by cases b <;> rfl
theorem or_b {b : Bool} {m : Z D} : zor (.bl b) m = if b = true then .ok (.bl true) else m := by cases b <;> rfl
theorem not_b {b : Bool} : znot (.bl b) = .ok (.bl !b) := id rfl
theorem part_i {i : Int} {f : Int → Z α} : zpart (.int i) f = f i := id rfl
theorem un2 {a b : D} : zun2 (.tup [a, b]) = .ok (a, b) := id rfl
theorem un3 {a b c : D} : zun3 (.tup [a, b, c]) = .ok (a, b, c) := id rfl
theorem fl_nx {s : σ} {f : σ → Z α} {g : ρ → Z α} : zfl (.nx s) f g = f s := id rfl
theorem fl_ret {c : ρ} {f : σ → Z α} {g : ρ → Z α} : zfl (.ret c : Fz σ ρ) f g = g c := id rfl
theorem cut_mid (xs : List D) (a b : Nat) : cutD xs (some (a : Int)) (some (b : Int)) = (xs.drop a).take (b - a) := by
  unfold cutD
  rw [HT.sIx_nat, HT.sIx_nat]
  by_cases h : a ≤ xs.length
  · rw [Nat.min_eq_left h]
    rw [List.take_eq_take_iff]
    simp
    omega
  · rw [Nat.min_eq_right (by omega : xs.length ≤ a)]
    rw [List.drop_eq_nil_of_le (by omega : xs.length ≤ xs.length), List.drop_eq_nil_of_le (by omega : xs.length ≤ a)]
    simp
theorem cut_none (xs : List D) : cutD xs none none = xs := by
  unfold cutD
  rw [HT.sIx_none, HT.sIx_none]
  simp
theorem slc_t {xs : List D} {l h : Option Int} : zslc (.tup xs) l h = .ok (.tup (cutD xs l h)) := id rfl
theorem slc_l {xs : List D} {l h : Option Int} : zslco (.lst xs) l h = .ok (cutD xs l h) := id rfl
theorem app_ok {xs : List D} {y : D} (h : xs.length < SZ) : zapp xs y = .ok (xs ++ [y]) := by unfold zapp; rw [if_pos h]
theorem ext_ok {xs ys : List D} (h : xs.length + ys.length ≤ SZ) : zmth .ext xs [.lst ys] = .ok (.non, xs ++ ys) := by
  unfold zmth mthD
  dsimp only
  rw [if_pos h]
  rfl
theorem st_ok {xs : List D} {k : Nat} {d : D} (h : k < xs.length) : zst xs (.int k) d = .ok (xs.set k d) := by
  unfold zst
  dsimp only
  rw [ixN_nat h]
theorem it_seqT {xs : List D} : itD .seq [.tup xs] = .ok xs := id rfl
theorem it_seqL {xs : List D} : itD .seq [.lst xs] = .ok xs := id rfl
theorem it_revT {xs : List D} : itD .rev [.tup xs] = .ok xs.reverse := id rfl
theorem it_revL {xs : List D} : itD .rev [.lst xs] = .ok xs.reverse := id rfl
theorem it_enumT {xs : List D} : itD .enum [.tup xs] = .ok ((xs.zipIdx).map fun p => .tup [.int (p.2 : Nat), p.1]) := id rfl
theorem it_enumL {xs : List D} : itD .enum [.lst xs] = .ok ((xs.zipIdx).map fun p => .tup [.int (p.2 : Nat), p.1]) := id rfl
theorem it_zipT {xs ys : List D} : itD .zip [.tup xs, .tup ys] = .ok ((xs.zip ys).map fun p => .tup [p.1, p.2]) := id rfl
theorem it_zipL {xs ys : List D} : itD .zip [.lst xs, .lst ys] = .ok ((xs.zip ys).map fun p => .tup [p.1, p.2]) := id rfl
theorem b62_of {i : Int} (h : -4611686018427387904 ≤ i) (h2 : i < 4611686018427387904) : b62 i = true := by
  simp [b62, h, h2]
theorem it_rng {n : Int} (h : -4611686018427387904 ≤ n) (h2 : n < 4611686018427387904) : itD .rng [.int n] = .ok ((List.range n.toNat).map fun k => .int (k : Nat)) := by
  unfold itD
  show Z.of (if b62 n = true then some ((List.range n.toNat).map fun k => D.int (k : Nat)) else none) = _
  rw [if_pos (b62_of h h2)]
  rfl
theorem it_rngN {n : Nat} (h : n ≤ SZ) : itD .rng [.int n] = .ok ((List.range n).map fun k => .int (k : Nat)) := by
  rw [it_rng (by omega) (by simp [SZ] at h; omega)]
  simp
theorem it_rng2 {a b : Nat} (h : b ≤ SZ) (ha : a ≤ SZ) : itD .rng [.int a, .int b] = .ok ((List.range (b - a)).map fun k => .int ((a + k : Nat) : Int)) := by
  unfold itD
  show Z.of (if (b62 a && b62 b) = true then some ((List.range ((b : Int) - a).toNat).map fun (k : Nat) => D.int (a + k)) else none) = _
  simp [SZ] at h ha
  rw [if_pos (by rw [b62_of (by omega) (by omega), b62_of (by omega) (by omega)]; rfl)]
  have : ((b : Int) - a).toNat = b - a := by omega
  rw [this]
  rfl
/-! loops -/
theorem zw_fold {f : D → σ → Z σ} {Q : σ → Prop} (I : List D → σ → Prop) : ∀ {xs : List D} {s : σ}, I xs s → (∀ d ds s, I (d :: ds) s → Zw (f d s) (I ds)) → (∀ s, I [] s → Q s) → Zw (foldZ f xs s) Q
  | [], s, i, h, q => zw_ok.mpr (q s i)
  | d :: ds, s, i, h, q => by
    simp only [foldZ]
    exact zc (h d ds s i) fun s' i' => zw_fold I i' h q
theorem fold_eq {f : D → σ → Z σ} {β : Type} (enc : β → D) (g : σ → β → σ) (I : σ → Prop) : ∀ {ys : List β} {s : σ}, I s → (∀ y, y ∈ ys → ∀ s, I s → f (enc y) s = .ok (g s y) ∧ I (g s y)) → foldZ f (ys.map enc) s = .ok (ys.foldl g s) ∧ I (ys.foldl g s)
  | [], s, i, h => ⟨rfl, i⟩
  | y :: ys, s, i, h => by
    obtain ⟨h1, h2⟩ := h y (List.mem_cons_self ..) s i
    simp only [List.map_cons, foldZ, h1, bind_ok', List.foldl_cons]
    exact fold_eq enc g I h2 fun y hy => h y (List.mem_cons_of_mem _ hy)
theorem zw_for {f : D → σ → Z (Fz σ ρ)} {Q : Fz σ ρ → Prop} (I : List D → σ → Prop) : ∀ {xs : List D} {s : σ}, I xs s → (∀ d ds s, I (d :: ds) s → Zw (f d s) fun r => match r with
    | .nx s => I ds s
    | .brk s => Q (.nx s)
    | .ret c => Q (.ret c)) → (∀ s, I [] s → Q (.nx s)) → Zw (forZ f xs s) Q
  | [], s, i, h, q => zw_ok.mpr (q s i)
  | d :: ds, s, i, h, q => by
    simp only [forZ]
    refine zc (h d ds s i) fun r i' => ?_
    cases r with
    | nx s' => exact zw_for I i' h q
    | brk s' => exact zw_ok.mpr i'
    | ret c => exact zw_ok.mpr i'
/-- a loop that only looks: all pass, or the first that doesn't ends it -/
theorem for_all {f : D → Unit → Z (Fz Unit ρ)} {β : Type} (enc : β → D) (p : β → Bool) (c : ρ) : ∀ {ys : List β}, (∀ y, y ∈ ys → f (enc y) () = .ok (if p y = true then .nx () else .ret c)) → forZ f (ys.map enc) () = .ok (if ys.all p = true then .nx () else .ret c)
  | [], h => rfl
  | y :: ys, h => by
    have h1 := h y (List.mem_cons_self ..)
    have h2 := for_all enc p c (ys := ys) fun y hy => h y (List.mem_cons_of_mem _ hy)
    simp only [List.map_cons, forZ, h1, bind_ok']
    by_cases hp : p y = true
    · simp [hp, h2]
    · simp [hp]
theorem map'_eq {f : D → Z D} {β : Type} (enc : β → D) (g : β → D) : ∀ {ys : List β}, (∀ y, y ∈ ys → f (enc y) = .ok (g y)) → mapZ' f (ys.map enc) = .ok (ys.map g)
  | [], h => rfl
  | y :: ys, h => by
    simp only [List.map_cons, mapZ', h y (List.mem_cons_self ..), map'_eq enc g (ys := ys) fun y hy => h y (List.mem_cons_of_mem _ hy), bind_ok']
theorem map_eq {f : D → Z D} {β : Type} (enc : β → D) (g : β → D) {ys : List β} (hl : ys.length ≤ SZ) (h : ∀ y, y ∈ ys → f (enc y) = .ok (g y)) : mapZ f (ys.map enc) = .ok (ys.map g) := by
  unfold mapZ
  rw [if_pos (by simpa using hl), map'_eq enc g h]
  rfl
theorem zw_mapS' {f : D → σ → Z (D × σ)} {Q : List D × σ → Prop} (I : List D → List D → σ → Prop) : ∀ {xs : List D} {s : σ} {acc : List D}, I xs acc s → (∀ d ds acc s, I (d :: ds) acc s → Zw (f d s) fun p => I ds (acc ++ [p.1]) p.2) → (∀ acc s, I [] acc s → Q (acc, s)) → Zw (mapS' f xs s) fun p => Q (acc ++ p.1, p.2)
  | [], s, acc, i, h, q => zw_ok.mpr (by simpa using q acc s i)
  | d :: ds, s, acc, i, h, q => by
    simp only [mapS']
    refine zc (h d ds acc s i) fun p i' => ?_
    refine zc (zw_mapS' I i' h q) fun r q' => zw_ok.mpr ?_
    simpa using q'
theorem zw_mapS {f : D → σ → Z (D × σ)} {Q : List D × σ → Prop} {xs : List D} {s : σ} (I : List D → List D → σ → Prop) (hl : xs.length ≤ SZ) (i : I xs [] s) (h : ∀ d ds acc s, I (d :: ds) acc s → Zw (f d s) fun p => I ds (acc ++ [p.1]) p.2) (q : ∀ acc s, I [] acc s → Q (acc, s)) : Zw (mapS f xs s) Q := by
  unfold mapS
  rw [if_pos hl, zw_nox]
  simpa using zw_mapS' I i h q
/-- each element is good, the state stays good -/
theorem zw_mapS_all {f : D → σ → Z (D × σ)} {xs : List D} {s : σ} (P : D → Prop) (J : σ → Prop) (hl : xs.length ≤ SZ) (j : J s) (h : ∀ d, d ∈ xs → ∀ s, J s → Zw (f d s) fun p => P p.1 ∧ J p.2) : Zw (mapS f xs s) fun p => p.1.length = xs.length ∧ (∀ d ∈ p.1, P d) ∧ J p.2 := by
  refine zw_mapS (fun r acc s => (∀ d ∈ r, d ∈ xs) ∧ acc.length + r.length = xs.length ∧ (∀ d ∈ acc, P d) ∧ J s) hl ⟨fun d hd => hd, by simp, by simp, j⟩ ?_ ?_
  · rintro d ds acc s ⟨i1, i2, i3, i4⟩
    refine (h d (i1 d (List.mem_cons_self ..)) s i4).imp fun p hp => ⟨fun e he => i1 e (List.mem_cons_of_mem _ he), ?_, ?_, hp.2⟩
    · simp at i2 ⊢; omega
    · intro e he
      rcases List.mem_append.mp he with he | he
      · exact i3 e he
      · rw [List.mem_singleton.mp he]; exact hp.1
  · rintro acc s ⟨_, i2, i3, i4⟩
    exact ⟨by simpa using i2, i3, i4⟩
end
end G
namespace G
open PySem PySem.Spec PyProof.Rows L2
variable [Tb]
section
variable {C : Cfg} {W : WX} {M H M1 H1 : Hp} {σ σ' : L2.St} {nv nv1 : Nv} {Φ : Fn} {shs : Nat → Nat → Shape} {K : PySem.W.Frag} {x y : Expr} {a b : E} {pos : Pos}
/-! ### x += e of numbers -/
def augO : P2 → Option Operator
  | .add => some .Add | .sub => some .Sub | _ => none
def augF : P2 → Int → Int → Int
  | .sub => fun i j => i - j
  | _ => fun i j => i + j
theorem ip_of {p : P2} {op : Operator} (h : augO p = some op) {X : Cx} : PIp X op (ipI (augF p)) := by
  cases p <;> first | (cases h; done) | (cases h)
  · exact ip_add
  · exact ip_sub
theorem aug_ok {p : P2} {op : Operator} (h : augO p = some op) {d e : D} {r : R} (q : pAug p d e = some r) : ∃ i j, d = .int i ∧ e = .int j ∧ r = .val (.int (augF p i j)) := by
  cases p <;> first | (cases h; done) | skip
  all_goals cases d <;> cases e <;> first | (cases q; done) | skip
  · cases q; exact ⟨_, _, rfl, rfl, rfl⟩
  · cases q; exact ⟨_, _, rfl, rfl, rfl⟩
theorem sndS_aug {i : Nat} {z : Str} {p : P2} {op : Operator} {py : Pos} (po : PrOk C) (hi : C.N[i]? = some z) (hs : C.st z = true) (hp : augO p = some op) (h : SndE C W x (evE Φ shs a)) :
    SndS C W (.AugAssign (.Name z py) op x pos) (evS Φ shs (.aug i p a)) := by
  intro M H σ nv D st hd
  refine tS.by (fun X hX => by
    obtain ⟨h1, h2⟩ := hX.e.fn z hs
    exact ps_aug hX.e.nd (by rw [hX.e.N]; exact hi) h1 (PEo hX.e x) (ip_of hp) h2) ?_
  rw [evS] at hd
  split at hd
  · rename_i d q
    obtain ⟨v, e1, e2⟩ := st.get i _ q
    refine ⟨v, e1, SndE.thenSF h st hd fun r nv1 u M1 H1 e3 st1 rp hd1 => ?_⟩
    cases e4 : pAug p d r.frz with
    | none => rw [e4] at hd1; exact hd1.elim
    | some res =>
      rw [e4] at hd1
      obtain ⟨m, n, rfl, e5, rfl⟩ := aug_ok hp e4
      rw [e5] at rp
      have e2 : Rep C.K M (.int m) v := e2
      simp only [Rep] at e2 rp
      subst e2; subst rp
      refine ⟨m, n, rfl, rfl, ?_⟩
      exact stored (r := .val (.int (augF p m n))) (po z i hs hi) st1 (by simp [RR, Rep]) ((Step.refl M1 H1 (Own σ nv1)).less fun a h => h.elim id False.elim) hd1
  · exact hd.elim
/-! ### divmod, max -/
/-! ### range with the step -1, list(range(..)) -/
/-! ### methods -/
/-! ### xs[k] += e of numbers -/
/-! ### a, b = x, y -/
/-! ### max of a tuple of ints -/
end
end G
namespace G
open PySem PySem.Spec PyProof.Rows L2
end G
namespace G
open PySem PySem.Spec PyProof.Rows L2
section
variable [Tb] {C : Cfg} {W : WX} {M H M1 H1 : Hp} {σ σ' : L2.St} {nv nv1 : Nv} {Φ : Fn} {shs : Nat → Nat → Shape} {x : Expr} {a : E} {pos : Pos}
end
end G
namespace G
noncomputable section
open PySem L2
section
variable {α γ : Type} {X : Nv → Prop} {m : Z γ} {Q : γ → Rs α → Prop} {Φ : Fn} {shs : Nat → Nat → Shape} {nv nv1 : Nv} {k : R → Nv → Rs α}
end
end
end G
namespace G
open PySem L2
/-- end_of(edit) -/
def f_end_of (edit : D) : Z (D) :=
  (zun3 edit).bind fun p1 =>
  (z1 .len p1.2.1).bind fun r2 =>
  (z2 .add p1.1 r2).bind fun r3 =>
  .ok r3
/-- applies(lines, edit) -/
def f_applies (lines : D) (edit : D) : Z (D) :=
  (zun3 edit).bind fun p1 =>
  (f_end_of edit).bind fun r2 =>
  (z2 .ge p1.1 (D.int 0)).bind fun r3 =>
  (zand r3 ((z1 .len lines).bind fun r4 =>
    (z2 .le r2 r4).bind fun r5 =>
    (zand r5 (zpart p1.1 fun i6 =>
      zpart r2 fun i7 =>
      (zslc lines (some i6) (some i7)).bind fun r8 =>
      (z2 .eq r8 p1.2.1).bind fun r9 =>
      .ok r9)).bind fun r10 =>
    .ok r10)).bind fun r11 =>
  .ok r11
/-- in_order(edits) -/
def f_in_order (edits : D) : Z (D) :=
  zpart (D.int 1) fun i1 =>
  (zslc edits (some i1) none).bind fun r2 =>
  (itD .zip [edits, r2]).bind fun xs4 =>
  (mapZ (fun d3 =>
  (zun2 d3).bind fun p6 =>
    (f_end_of p6.1).bind fun r7 =>
    (z2 .ix p6.2 (D.int 0)).bind fun r8 =>
    (z2 .le r7 r8).bind fun r9 =>
    .ok r9) xs4).bind fun ys10 =>
  (z1 .all (D.lst ys10)).bind fun r11 =>
  .ok r11
/-- line_origins(lines, edits) -/
def f_line_origins (lines : D) (edits : D) : Z (D) :=
  (f_in_order edits).bind fun r1 =>
  (z1 .truth r1).bind fun r2 =>
  (znot r2).bind fun r3 =>
  (zor r3 ((itD .seq [edits]).bind fun xs5 =>
    (mapZ (fun d4 =>
    (f_applies lines d4).bind fun r7 =>
      .ok r7) xs5).bind fun ys8 =>
    (z1 .all (D.lst ys8)).bind fun r9 =>
    (z1 .truth r9).bind fun r10 =>
    (znot r10).bind fun r11 =>
    .ok r11)).bind fun r12 =>
  zite r12 (
  .ok D.non) (
  (itD .enum [edits]).bind fun xs16 =>
    (foldZ (fun d15 (s13 : List D × D) =>
    (zun2 d15).bind fun p17 =>
      (z2 .ix p17.2 (D.int 0)).bind fun r18 =>
      (itD .rng [s13.2, r18]).bind fun xs20 =>
      (mapZ (fun d19 =>
      .ok (D.tup [(D.str "kept"), d19])) xs20).bind fun ys22 =>
      (zmth .ext s13.1 [(D.lst ys22)]).bind fun p23 =>
      (z2 .ix p17.2 (D.int 2)).bind fun r24 =>
      (z1 .len r24).bind fun r25 =>
      (itD .rng [r25]).bind fun xs27 =>
      (mapZ (fun d26 =>
      .ok (D.tup [(D.str "inserted"), p17.1, d26])) xs27).bind fun ys29 =>
      (zmth .ext p23.2 [(D.lst ys29)]).bind fun p30 =>
      (f_end_of p17.2).bind fun r31 =>
      .ok (p30.2, r31)) xs16 ([], (D.int 0))).bind fun s14 =>
    (z1 .len lines).bind fun r34 =>
    (itD .rng [s14.2, r34]).bind fun xs36 =>
    (mapZ (fun d35 =>
    .ok (D.tup [(D.str "kept"), d35])) xs36).bind fun ys38 =>
    (zmth .ext s14.1 [(D.lst ys38)]).bind fun p39 =>
    (z1 .tupl (D.lst p39.2)).bind fun r40 =>
    .ok r40)
/-- _line_from(lines, edits, origin) -/
def f_line_from (lines : D) (edits : D) (origin : D) : Z (D) :=
  (z2 .ix origin (D.int 0)).bind fun r1 =>
  (z2 .eq r1 (D.str "kept")).bind fun r2 =>
  zite r2 (
  (z2 .ix origin (D.int 1)).bind fun r3 =>
    (z2 .ix lines r3).bind fun r4 =>
    .ok r4) (
  (z2 .ix origin (D.int 1)).bind fun r5 =>
    (z2 .ix edits r5).bind fun r6 =>
    (z2 .ix r6 (D.int 2)).bind fun r7 =>
    (z2 .ix origin (D.int 2)).bind fun r8 =>
    (z2 .ix r7 r8).bind fun r9 =>
    .ok r9)
/-- apply_edits(lines, edits) -/
def f_apply_edits (lines : D) (edits : D) : Z (D) :=
  (f_line_origins lines edits).bind fun r1 =>
  (z1 .isN r1).bind fun r2 =>
  zite r2 (
  .ok D.non) (
  (itD .seq [r1]).bind fun xs4 =>
    (mapZ (fun d3 =>
    (f_line_from lines edits d3).bind fun r6 =>
      .ok r6) xs4).bind fun ys7 =>
    (z1 .tupl (D.lst ys7)).bind fun r8 =>
    .ok r8)
/-- _law_tape(script) -/
def f_law_tape (script : D) : Z (List D) :=
  (itD .seq [script]).bind fun xs4 =>
  (foldZ (fun d3 (s1 : D) =>
  (z2 .mul s1 (D.int 31)).bind fun r5 =>
    (z1 .int d3).bind fun r6 =>
    (z1 .abs r6).bind fun r7 =>
    (z2 .add r5 r7).bind fun r8 =>
    (z1 .int r8).bind fun r9 =>
    (z2 .mod r9 (D.int 2147483647)).bind fun r10 =>
    .ok r10) xs4 (D.int 7)).bind fun s2 =>
  (z1o .list script).bind fun r11 =>
  .ok [(D.lst r11), (D.int 0), (D.int 0), s2]
/-- _law_draw(tape, many) -/
def f_law_draw (tape : List D) (many : D) : Z (D × List D) :=
  (z2 .ix (D.lst tape) (D.int 2)).bind fun r1 =>
  (z2 .eq r1 (D.int 0)).bind fun r2 =>
  zite r2 (
  (z2 .ix (D.lst tape) (D.int 1)).bind fun r3 =>
    (z2 .ix (D.lst tape) (D.int 0)).bind fun r4 =>
    (z1 .len r4).bind fun r5 =>
    (z2 .lt r3 r5).bind fun r6 =>
    (zite r6 (
    (z2 .ix (D.lst tape) (D.int 0)).bind fun r7 =>
      (z2 .ix r7 r3).bind fun r8 =>
      (z1 .int r8).bind fun r9 =>
      (z1 .abs r9).bind fun r10 =>
      .ok (tape, r10)) (
    (z2 .ix (D.lst tape) (D.int 3)).bind fun r11 =>
      (z2 .mul r11 (D.int 48271)).bind fun r12 =>
      (z2 .add r12 r3).bind fun r13 =>
      (z2 .add r13 (D.int 1)).bind fun r14 =>
      (z1 .int r14).bind fun r15 =>
      (z2 .mod r15 (D.int 2147483647)).bind fun r16 =>
      (zst tape (D.int 3) r16).bind fun l17 =>
      (z2 .ix (D.lst l17) (D.int 3)).bind fun r18 =>
      .ok (l17, r18))).bind fun (s19 : List D × D) =>
    (z2 .add r3 (D.int 1)).bind fun r20 =>
    (zst s19.1 (D.int 1) r20).bind fun l21 =>
    (z2 .pow (D.int 10) (D.int 18)).bind fun r22 =>
    (z2 .lt s19.2 r22).bind fun r23 =>
    zite r23 (
    (z2 .mul s19.2 (D.int 48271)).bind fun r24 =>
      (z2 .mul r3 (D.int 69621)).bind fun r25 =>
      (z2 .add r24 r25).bind fun r26 =>
      (z2 .add r26 (D.int 5)).bind fun r27 =>
      (z1 .int r27).bind fun r28 =>
      (z2 .mod r28 (D.int 2147483647)).bind fun r29 =>
      (z2 .mul r29 (D.int 69621)).bind fun r30 =>
      (z1 .int r30).bind fun r31 =>
      (z2 .mod r31 (D.int 2147483629)).bind fun r32 =>
      (z1 .int r32).bind fun r33 =>
      (z2 .max many (D.int 1)).bind fun r34 =>
      (z2 .mod r33 r34).bind fun r35 =>
      .ok (r35, l21)) (
    (zst l21 (D.int 2) s19.2).bind fun l36 =>
      (z2 .ix (D.lst l36) (D.int 2)).bind fun r37 =>
      (z2 .max many (D.int 2)).bind fun r38 =>
      (z2 .fdiv r37 r38).bind fun r39 =>
      (zst l36 (D.int 2) r39).bind fun l40 =>
      (z1 .int r37).bind fun r41 =>
      (z2 .max many (D.int 1)).bind fun r42 =>
      (z2 .mod r41 r42).bind fun r43 =>
      .ok (r43, l40))) (
  (z2 .ix (D.lst tape) (D.int 2)).bind fun r44 =>
    (z2 .max many (D.int 2)).bind fun r45 =>
    (z2 .fdiv r44 r45).bind fun r46 =>
    (zst tape (D.int 2) r46).bind fun l47 =>
    (z1 .int r44).bind fun r48 =>
    (z2 .max many (D.int 1)).bind fun r49 =>
    (z2 .mod r48 r49).bind fun r50 =>
    .ok (r50, l47))
/-- _law_same(actual, expected) -/
def f_law_same : Nat → D → D → Z (D)
  | 0, _, _ => .no
  | fuel + 1, actual, expected =>
    (z1 .isN expected).bind fun r1 =>
    zite r1 (
    (z1 .isN actual).bind fun r2 =>
      .ok r2) (
    (z1 (.isi 0) expected).bind fun r3 =>
      (z1 .truth r3).bind fun r4 =>
      zite r4 (
      (z1 (.isi 0) actual).bind fun r5 =>
        (z1 .truth r5).bind fun r6 =>
        (znot r6).bind fun r7 =>
        (zor r7 ((z1 .len actual).bind fun r8 =>
          (z1 .len expected).bind fun r9 =>
          (z2 .ne r8 r9).bind fun r10 =>
          .ok r10)).bind fun r11 =>
        zite r11 (
        .ok (D.bl false)) (
        (z1 .len expected).bind fun r12 =>
          (itD .rng [r12]).bind fun xs16 =>
          (forZ (σ := Unit) (ρ := D) (fun d15 s13 =>
          (z2 .ix actual d15).bind fun r17 =>
            (z2 .ix expected d15).bind fun r18 =>
            (f_law_same fuel r17 r18).bind fun r19 =>
            (z1 .truth r19).bind fun r20 =>
            (znot r20).bind fun r21 =>
            zite r21 (
            .ok (.ret (D.bl false))) (
            .ok (.nx ()))) xs16 ()).bind fun c => zfl c (fun s14 =>
          .ok (D.bl true)) fun c => .ok c)) (
      (z1 (.isi 1) expected).bind fun r22 =>
        (z1 .truth r22).bind fun r23 =>
        zite r23 (
        (z1 (.isi 1) actual).bind fun r24 =>
          (zand r24 ((z2 .eq actual expected).bind fun r25 =>
            .ok r25)).bind fun r26 =>
          .ok r26) (
        (z1 (.isi 2) expected).bind fun r27 =>
          (z1 .truth r27).bind fun r28 =>
          zite r28 (
          (z1 (.isi 2) actual).bind fun r29 =>
            (zand r29 ((z2 .eq actual expected).bind fun r30 =>
              .ok r30)).bind fun r31 =>
            .ok r31) (
          (z1 (.isi 3) actual).bind fun r32 =>
            (zand r32 ((z1 (.isi 1) actual).bind fun r33 =>
              (znot r33).bind fun r34 =>
              (zand r34 ((z2 .eq actual expected).bind fun r35 =>
                .ok r35)).bind fun r36 =>
              .ok r36)).bind fun r37 =>
            .ok r37))))
/-- _law_menu(tape) -/
def f_law_menu (tape : List D) : Z (List D × List D) :=
  (Z.nox (f_law_draw tape (D.int 8))).bind fun p1 =>
  (z2 .eq p1.1 (D.int 0)).bind fun r2 =>
  zite r2 (
  (Z.nox (f_law_draw p1.2 (D.int 4))).bind fun p3 =>
    (z2 .add (D.int 3) p3.1).bind fun r4 =>
    zpart r4 fun i5 =>
    (zslco (D.lst [(D.str "keep"), (D.str "remove"), (D.str "insert"), (D.str "kept"), (D.str "inserted"), (D.str "")]) none (some i5)).bind fun r6 =>
    .ok (r6, p3.2)) (
  (Z.nox (f_law_draw p1.2 (D.int 3))).bind fun p7 =>
    (z2 .ix (D.lst [(D.str ""), (D.str ""), (D.str "section 12, part (b")]) p7.1).bind fun r8 =>
    (Z.nox (f_law_draw p7.2 (D.int 8))).bind fun p9 =>
    (z2 .ix (D.lst [(D.int 2), (D.int 2), (D.int 3), (D.int 3), (D.int 4), (D.int 5), (D.int 5), (D.int 12)]) p9.1).bind fun r10 =>
    (itD .rng [r10]).bind fun xs14 =>
    (foldZ (fun d13 (s11 : List D × List D) =>
    (z1 .len (D.str " !\"#$&'()*+,-./0123456789:;<=>?@ABCDEFGHIJKLMNOPQRSTUVWXYZ[\\]^_`abcdefghijklmnopqrstuvwxyz{|}~")).bind fun r15 =>
      (Z.nox (f_law_draw s11.1 r15)).bind fun p16 =>
      (z2 .ix (D.str " !\"#$&'()*+,-./0123456789:;<=>?@ABCDEFGHIJKLMNOPQRSTUVWXYZ[\\]^_`abcdefghijklmnopqrstuvwxyz{|}~") p16.1).bind fun r17 =>
      (z2 .add r8 r17).bind fun r18 =>
      (z2 .eq r8 (D.str "")).bind fun r19 =>
      (zite r19 (
      (Z.nox (f_law_draw p16.2 (D.int 20))).bind fun p20 =>
        (Z.nox (f_law_draw p20.2 (D.int 6))).bind fun p21 =>
        (z2 .ix (D.lst [(D.int 0), (D.int 0), (D.int 0), (D.int 1), (D.int 19), p20.1]) p21.1).bind fun r22 =>
        (itD .rng [r22]).bind fun xs26 =>
        (foldZ (fun d25 (s23 : List D × D) =>
        (z1 .len (D.str " !\"#$&'()*+,-./0123456789:;<=>?@ABCDEFGHIJKLMNOPQRSTUVWXYZ[\\]^_`abcdefghijklmnopqrstuvwxyz{|}~")).bind fun r27 =>
          (Z.nox (f_law_draw s23.1 r27)).bind fun p28 =>
          (z2 .ix (D.str " !\"#$&'()*+,-./0123456789:;<=>?@ABCDEFGHIJKLMNOPQRSTUVWXYZ[\\]^_`abcdefghijklmnopqrstuvwxyz{|}~") p28.1).bind fun r29 =>
          (z2 .add s23.2 r29).bind fun r30 =>
          .ok (p28.2, r30)) xs26 (p21.2, r18)).bind fun s24 =>
        .ok (s24.1, s24.2)) (
      .ok (p16.2, r18))).bind fun (s31 : List D × D) =>
      (zapp s11.2 s31.2).bind fun l32 =>
      .ok (s31.1, l32)) xs14 (p9.2, [])).bind fun s12 =>
    (Z.nox (f_law_draw s12.1 (D.int 3))).bind fun p33 =>
    (z2 .eq p33.1 (D.int 0)).bind fun r34 =>
    (zite r34 (
    (zst s12.2 (D.int 0) (D.str "")).bind fun l35 =>
      .ok l35) (
    .ok s12.2)).bind fun (s36 : List D) =>
    .ok (s36, p33.2))
/-- _law_lines(tape, menu, most) -/
def f_law_lines (tape : List D) (menu : D) (most : D) : Z (D × List D) :=
  (z2 .add most (D.int 1)).bind fun r1 =>
  (Z.nox (f_law_draw tape r1)).bind fun p2 =>
  (itD .rng [p2.1]).bind fun xs4 =>
  (mapS (fun d3 s5 =>
  (z1 .len menu).bind fun r6 =>
    (Z.nox (f_law_draw s5 r6)).bind fun p7 =>
    (z2 .ix menu p7.1).bind fun r8 =>
    .ok (r8, p7.2)) xs4 p2.2).bind fun p9 =>
  (z1 .tupl (D.lst p9.1)).bind fun r10 =>
  .ok (r10, p9.2)
/-- _law_row(tape, menu) -/
def f_law_row (tape : List D) (menu : D) : Z (D × List D) :=
  (Z.nox (f_law_draw tape (D.int 4))).bind fun p1 =>
  (z2 .ix (D.lst [(D.int 4), (D.int 12), (D.int 12), (D.int 36)]) p1.1).bind fun r2 =>
  (Z.nox (f_law_lines p1.2 menu r2)).bind fun p3 =>
  .ok (p3.1, p3.2)
/-- _law_end(edit) -/
def f_law_end (edit : D) : Z (D) :=
  (z2 .ix edit (D.int 0)).bind fun r1 =>
  (z2 .ix edit (D.int 1)).bind fun r2 =>
  (z1 .len r2).bind fun r3 =>
  (z2 .add r1 r3).bind fun r4 =>
  .ok r4
/-- _law_ordered(edits) -/
def f_law_ordered (edits : D) : Z (D) :=
  (z1 .len edits).bind fun r1 =>
  (itD .rng [(D.int 1), r1]).bind fun xs5 =>
  (forZ (σ := Unit) (ρ := D) (fun d4 s2 =>
  (z2 .sub d4 (D.int 1)).bind fun r6 =>
    (z2 .ix edits r6).bind fun r7 =>
    (f_law_end r7).bind fun r8 =>
    (z2 .ix edits d4).bind fun r9 =>
    (z2 .ix r9 (D.int 0)).bind fun r10 =>
    (z2 .gt r8 r10).bind fun r11 =>
    zite r11 (
    .ok (.ret (D.bl false))) (
    .ok (.nx ()))) xs5 ()).bind fun c => zfl c (fun s3 =>
  .ok (D.bl true)) fun c => .ok c
/-- _law_fits(lines, edit) -/
def f_law_fits (lines : D) (edit : D) : Z (D) :=
  (f_law_end edit).bind fun r1 =>
  (z1 .len lines).bind fun r2 =>
  (z2 .le r1 r2).bind fun r3 =>
  (zand r3 ((z2 .ix edit (D.int 0)).bind fun r4 =>
    zpart r4 fun i5 =>
    (f_law_end edit).bind fun r6 =>
    zpart r6 fun i7 =>
    (zslc lines (some i5) (some i7)).bind fun r8 =>
    (z2 .ix edit (D.int 1)).bind fun r9 =>
    (z2 .eq r8 r9).bind fun r10 =>
    .ok r10)).bind fun r11 =>
  .ok r11
/-- _law_applied(lines, edits) -/
def f_law_applied (lines : D) (edits : D) : Z (D) :=
  (f_law_ordered edits).bind fun r1 =>
  (z1 .truth r1).bind fun r2 =>
  (znot r2).bind fun r3 =>
  zite r3 (
  .ok D.non) (
  (itD .seq [edits]).bind fun xs7 =>
    (forZ (σ := Unit) (ρ := D) (fun d6 s4 =>
    (f_law_fits lines d6).bind fun r8 =>
      (z1 .truth r8).bind fun r9 =>
      (znot r9).bind fun r10 =>
      zite r10 (
      .ok (.ret D.non)) (
      .ok (.nx ()))) xs7 ()).bind fun c => zfl c (fun s5 =>
    (itD .rev [edits]).bind fun xs14 =>
      (foldZ (fun d13 (s11 : D) =>
      (z2 .ix d13 (D.int 0)).bind fun r15 =>
        zpart r15 fun i16 =>
        (zslc s11 none (some i16)).bind fun r17 =>
        (z2 .ix d13 (D.int 2)).bind fun r18 =>
        (z2 .add r17 r18).bind fun r19 =>
        (f_law_end d13).bind fun r20 =>
        zpart r20 fun i21 =>
        (zslc s11 (some i21) none).bind fun r22 =>
        (z2 .add r19 r22).bind fun r23 =>
        .ok r23) xs14 lines).bind fun s12 =>
      .ok s12) fun c => .ok c)
/-- _law_fit_edits(tape, menu, lines, most, room) -/
def f_law_fit_edits (tape : List D) (menu : D) (lines : D) (most : D) (room : D) : Z (D × List D) :=
  (z2 .add most (D.int 1)).bind fun r1 =>
  (Z.nox (f_law_draw tape r1)).bind fun p2 =>
  (itD .rng [p2.1]).bind fun xs6 =>
  (forZ (σ := List D × D × List D × D) (ρ := D × List D) (fun d5 s3 =>
  (Z.nox (f_law_draw s3.1 (D.int 5))).bind fun p7 =>
    (z2 .ix (D.lst [(D.int 0), (D.int 0), (D.int 1), (D.int 3), (D.int 11)]) p7.1).bind fun r8 =>
    (z2 .add s3.2.2.2 r8).bind fun r9 =>
    (z1 .len lines).bind fun r10 =>
    (z2 .min r9 r10).bind fun r11 =>
    (z2 .gt r11 (D.int 30)).bind fun r12 =>
    zite r12 (
    .ok (.brk (p7.2, s3.2.1, s3.2.2.1, r11))) (
    (Z.nox (f_law_draw p7.2 (D.int 5))).bind fun p13 =>
      (z2 .ix (D.lst [(D.int 0), (D.int 0), (D.int 1), (D.int 2), (D.int 6)]) p13.1).bind fun r14 =>
      (z2 .add r11 r14).bind fun r15 =>
      (z1 .len lines).bind fun r16 =>
      (z2 .min r15 r16).bind fun r17 =>
      (Z.nox (f_law_draw p13.2 (D.int 4))).bind fun p18 =>
      (z2 .ix (D.lst [(D.int 0), (D.int 1), (D.int 2), (D.int 6)]) p18.1).bind fun r19 =>
      (z2 .min r19 s3.2.1).bind fun r20 =>
      (Z.nox (f_law_lines p18.2 menu r20)).bind fun p21 =>
      zpart r11 fun i22 =>
      zpart r17 fun i23 =>
      (zslc lines (some i22) (some i23)).bind fun r24 =>
      (zapp s3.2.2.1 (D.tup [r11, r24, p21.1])).bind fun l25 =>
      (z1 .len p21.1).bind fun r26 =>
      (z2 .sub s3.2.1 r26).bind fun r27 =>
      .ok (.nx (p21.2, r27, l25, r17)))) xs6 (p2.2, room, [], (D.int 0))).bind fun c => zfl c (fun s4 =>
  (z1 .tupl (D.lst s4.2.2.1)).bind fun r28 =>
    .ok (r28, s4.1)) fun c => .ok c
/-- _law_loose_edits(tape, menu, lines, most) -/
def f_law_loose_edits (tape : List D) (menu : D) (lines : D) (most : D) : Z (D × List D) :=
  (z2 .add most (D.int 1)).bind fun r1 =>
  (Z.nox (f_law_draw tape r1)).bind fun p2 =>
  (itD .rng [p2.1]).bind fun xs6 =>
  (foldZ (fun d5 (s3 : List D × List D) =>
  (z1 .len lines).bind fun r7 =>
    (z2 .min r7 (D.int 30)).bind fun r8 =>
    (z2 .add r8 (D.int 1)).bind fun r9 =>
    (Z.nox (f_law_draw s3.1 r9)).bind fun p10 =>
    (Z.nox (f_law_draw p10.2 (D.int 6))).bind fun p11 =>
    (z2 .ix (D.lst [(D.int 0), (D.int 0), (D.int 1), (D.int 2), (D.int 3), (D.int 6)]) p11.1).bind fun r12 =>
    (z2 .add p10.1 r12).bind fun r13 =>
    (z1 .len lines).bind fun r14 =>
    (z2 .min r13 r14).bind fun r15 =>
    zpart p10.1 fun i16 =>
    zpart r15 fun i17 =>
    (zslc lines (some i16) (some i17)).bind fun r18 =>
    (Z.nox (f_law_draw p11.2 (D.int 4))).bind fun p19 =>
    (z2 .ix (D.lst [(D.int 0), (D.int 1), (D.int 2), (D.int 6)]) p19.1).bind fun r20 =>
    (Z.nox (f_law_lines p19.2 menu r20)).bind fun p21 =>
    (z1 .truth (D.lst s3.2)).bind fun r22 =>
    (zite r22 ((Z.nox (f_law_draw p21.2 (D.int 8))).bind fun p23 =>
      (z2 .eq p23.1 (D.int 0)).bind fun r24 =>
      .ok (r24, p23.2)) (.ok ((D.bl false), p21.2))).bind fun s25 =>
    (zite s25.1 (
    (z1 .len (D.lst s3.2)).bind fun r26 =>
      (Z.nox (f_law_draw s25.2 r26)).bind fun p27 =>
      (z2 .ix (D.lst s3.2) p27.1).bind fun r28 =>
      .ok (p27.2, r28)) (
    .ok (s25.2, (D.tup [p10.1, r18, p21.1])))).bind fun (s29 : List D × D) =>
    (zapp s3.2 s29.2).bind fun l30 =>
    .ok (s29.1, l30)) xs6 (p2.2, [])).bind fun s4 =>
  (z1 .tupl (D.lst s4.2)).bind fun r31 =>
  .ok (r31, s4.1)
/-- _law_spoilt(tape, menu, edits) -/
def f_law_spoilt (tape : List D) (menu : D) (edits : D) : Z (D × List D) :=
  (z1 .truth edits).bind fun r1 =>
  (znot r1).bind fun r2 =>
  zite r2 (
  (Z.nox (f_law_draw tape (D.int 31))).bind fun p3 =>
    (Z.nox (f_law_lines p3.2 menu (D.int 6))).bind fun p4 =>
    (Z.nox (f_law_lines p4.2 menu (D.int 2))).bind fun p5 =>
    .ok ((D.tup [(D.tup [p3.1, p4.1, p5.1])]), p5.2)) (
  (z1 .len edits).bind fun r6 =>
    (Z.nox (f_law_draw tape r6)).bind fun p7 =>
    (z2 .ix edits p7.1).bind fun r8 =>
    (Z.nox (f_law_draw p7.2 (D.int 6))).bind fun p9 =>
    (z2 .eq p9.1 (D.int 0)).bind fun r10 =>
    (zand r10 ((z2 .ix r8 (D.int 1)).bind fun r11 =>
      (z1 .truth r11).bind fun r12 =>
      .ok r12)).bind fun r13 =>
    zite r13 (
    (z2 .ix r8 (D.int 1)).bind fun r14 =>
      (z1 .len r14).bind fun r15 =>
      (Z.nox (f_law_draw p9.2 r15)).bind fun p16 =>
      (z2 .ix r8 (D.int 0)).bind fun r17 =>
      (z2 .ix r8 (D.int 1)).bind fun r18 =>
      zpart p16.1 fun i19 =>
      (zslc r18 none (some i19)).bind fun r20 =>
      (z1 .len menu).bind fun r21 =>
      (Z.nox (f_law_draw p16.2 r21)).bind fun p22 =>
      (z2 .ix menu p22.1).bind fun r23 =>
      (z2 .add r20 (D.tup [r23])).bind fun r24 =>
      (z2 .ix r8 (D.int 1)).bind fun r25 =>
      (z2 .add p16.1 (D.int 1)).bind fun r26 =>
      zpart r26 fun i27 =>
      (zslc r25 (some i27) none).bind fun r28 =>
      (z2 .add r24 r28).bind fun r29 =>
      (z2 .ix r8 (D.int 2)).bind fun r30 =>
      zpart p7.1 fun i31 =>
      (zslc edits none (some i31)).bind fun r32 =>
      (z2 .add r32 (D.tup [(D.tup [r17, r29, r30])])).bind fun r33 =>
      (z2 .add p7.1 (D.int 1)).bind fun r34 =>
      zpart r34 fun i35 =>
      (zslc edits (some i35) none).bind fun r36 =>
      (z2 .add r33 r36).bind fun r37 =>
      .ok (r37, p22.2)) (
    (z2 .eq p9.1 (D.int 1)).bind fun r38 =>
      zite r38 (
      (z2 .ix r8 (D.int 0)).bind fun r39 =>
        (z2 .sub r39 (D.int 1)).bind fun r40 =>
        (z2 .max r40 (D.int 0)).bind fun r41 =>
        (z2 .ix r8 (D.int 1)).bind fun r42 =>
        (z2 .ix r8 (D.int 2)).bind fun r43 =>
        zpart p7.1 fun i44 =>
        (zslc edits none (some i44)).bind fun r45 =>
        (z2 .add r45 (D.tup [(D.tup [r41, r42, r43])])).bind fun r46 =>
        (z2 .add p7.1 (D.int 1)).bind fun r47 =>
        zpart r47 fun i48 =>
        (zslc edits (some i48) none).bind fun r49 =>
        (z2 .add r46 r49).bind fun r50 =>
        .ok (r50, p9.2)) (
      (z2 .eq p9.1 (D.int 2)).bind fun r51 =>
        zite r51 (
        (z2 .ix r8 (D.int 0)).bind fun r52 =>
          (z2 .add r52 (D.int 1)).bind fun r53 =>
          (Z.nox (f_law_draw p9.2 (D.int 3))).bind fun p54 =>
          (z2 .add r53 p54.1).bind fun r55 =>
          (z2 .min r55 (D.int 30)).bind fun r56 =>
          (z2 .ix r8 (D.int 1)).bind fun r57 =>
          (z2 .ix r8 (D.int 2)).bind fun r58 =>
          zpart p7.1 fun i59 =>
          (zslc edits none (some i59)).bind fun r60 =>
          (z2 .add r60 (D.tup [(D.tup [r56, r57, r58])])).bind fun r61 =>
          (z2 .add p7.1 (D.int 1)).bind fun r62 =>
          zpart r62 fun i63 =>
          (zslc edits (some i63) none).bind fun r64 =>
          (z2 .add r61 r64).bind fun r65 =>
          .ok (r65, p54.2)) (
        (z2 .eq p9.1 (D.int 3)).bind fun r66 =>
          zite r66 (
          (z2 .ix r8 (D.int 0)).bind fun r67 =>
            (z2 .ix r8 (D.int 1)).bind fun r68 =>
            (z1 .len menu).bind fun r69 =>
            (Z.nox (f_law_draw p9.2 r69)).bind fun p70 =>
            (z2 .ix menu p70.1).bind fun r71 =>
            (z2 .add r68 (D.tup [r71])).bind fun r72 =>
            zpart (D.int 6) fun i73 =>
            (zslc r72 none (some i73)).bind fun r74 =>
            (z2 .ix r8 (D.int 2)).bind fun r75 =>
            zpart p7.1 fun i76 =>
            (zslc edits none (some i76)).bind fun r77 =>
            (z2 .add r77 (D.tup [(D.tup [r67, r74, r75])])).bind fun r78 =>
            (z2 .add p7.1 (D.int 1)).bind fun r79 =>
            zpart r79 fun i80 =>
            (zslc edits (some i80) none).bind fun r81 =>
            (z2 .add r78 r81).bind fun r82 =>
            .ok (r82, p70.2)) (
          (z2 .eq p9.1 (D.int 4)).bind fun r83 =>
            (zand r83 ((z1 .len edits).bind fun r84 =>
              (z2 .lt r84 (D.int 8)).bind fun r85 =>
              .ok r85)).bind fun r86 =>
            zite r86 (
            zpart p7.1 fun i87 =>
              (zslc edits none (some i87)).bind fun r88 =>
              (z2 .add r88 (D.tup [r8])).bind fun r89 =>
              zpart p7.1 fun i90 =>
              (zslc edits (some i90) none).bind fun r91 =>
              (z2 .add r89 r91).bind fun r92 =>
              .ok (r92, p9.2)) (
            (z1 .len edits).bind fun r93 =>
              (Z.nox (f_law_draw p9.2 r93)).bind fun p94 =>
              (z1o .list edits).bind fun r95 =>
              (z2 .ix edits p94.1).bind fun r96 =>
              (zst r95 p7.1 r96).bind fun l97 =>
              (zst l97 p94.1 r8).bind fun l98 =>
              (z1 .tupl (D.lst l98)).bind fun r99 =>
              .ok (r99, p94.2)))))))
/-- _law_wild_edits(tape, menu, most) -/
def f_law_wild_edits (tape : List D) (menu : D) (most : D) : Z (D × List D) :=
  (Z.nox (f_law_draw tape (D.int 3))).bind fun p1 =>
  (z2 .ix (D.lst [(D.int 4), (D.int 13), (D.int 31)]) p1.1).bind fun r2 =>
  (z2 .add most (D.int 1)).bind fun r3 =>
  (Z.nox (f_law_draw p1.2 r3)).bind fun p4 =>
  (itD .rng [p4.1]).bind fun xs8 =>
  (foldZ (fun d7 (s5 : List D × List D) =>
  (Z.nox (f_law_draw s5.1 r2)).bind fun p9 =>
    (Z.nox (f_law_draw p9.2 (D.int 4))).bind fun p10 =>
    (z2 .ix (D.lst [(D.int 0), (D.int 1), (D.int 2), (D.int 6)]) p10.1).bind fun r11 =>
    (Z.nox (f_law_lines p10.2 menu r11)).bind fun p12 =>
    (Z.nox (f_law_draw p12.2 (D.int 4))).bind fun p13 =>
    (z2 .ix (D.lst [(D.int 0), (D.int 1), (D.int 2), (D.int 6)]) p13.1).bind fun r14 =>
    (Z.nox (f_law_lines p13.2 menu r14)).bind fun p15 =>
    (z1 .truth (D.lst s5.2)).bind fun r16 =>
    (zite r16 ((Z.nox (f_law_draw p15.2 (D.int 6))).bind fun p17 =>
      (z2 .eq p17.1 (D.int 0)).bind fun r18 =>
      .ok (r18, p17.2)) (.ok ((D.bl false), p15.2))).bind fun s19 =>
    (zite s19.1 (
    (z1 .len (D.lst s5.2)).bind fun r20 =>
      (Z.nox (f_law_draw s19.2 r20)).bind fun p21 =>
      (z2 .ix (D.lst s5.2) p21.1).bind fun r22 =>
      .ok (p21.2, r22)) (
    .ok (s19.2, (D.tup [p9.1, p12.1, p15.1])))).bind fun (s23 : List D × D) =>
    (zapp s5.2 s23.2).bind fun l24 =>
    .ok (s23.1, l24)) xs8 (p4.2, [])).bind fun s6 =>
  (z1 .tupl (D.lst s6.2)).bind fun r25 =>
  .ok (r25, s6.1)
/-- _law_some_edits(tape, menu, lines) -/
def f_law_some_edits (tape : List D) (menu : D) (lines : D) : Z (D × List D) :=
  (Z.nox (f_law_draw tape (D.int 6))).bind fun p1 =>
  (z2 .eq p1.1 (D.int 5)).bind fun r2 =>
  zite r2 (
  (Z.nox (f_law_draw p1.2 (D.int 2))).bind fun p3 =>
    (z2 .ix (D.lst [(D.int 3), (D.int 8)]) p3.1).bind fun r4 =>
    (Z.nox (f_law_wild_edits p3.2 menu r4)).bind fun p5 =>
    .ok (p5.1, p5.2)) (
  (z2 .lt p1.1 (D.int 3)).bind fun r6 =>
    (zite r6 (
    (Z.nox (f_law_fit_edits p1.2 menu lines (D.int 8) (D.int 48))).bind fun p7 =>
      .ok (p7.2, p7.1)) (
    (Z.nox (f_law_draw p1.2 (D.int 2))).bind fun p8 =>
      (z2 .ix (D.lst [(D.int 3), (D.int 8)]) p8.1).bind fun r9 =>
      (Z.nox (f_law_loose_edits p8.2 menu lines r9)).bind fun p10 =>
      .ok (p10.2, p10.1))).bind fun (s11 : List D × D) =>
    (z2 .eq p1.1 (D.int 2)).bind fun r12 =>
    (zor r12 ((z2 .eq p1.1 (D.int 4)).bind fun r13 =>
      .ok r13)).bind fun r14 =>
    (zite r14 (
    (Z.nox (f_law_spoilt s11.1 menu s11.2)).bind fun p15 =>
      .ok (p15.2, p15.1)) (
    .ok (s11.1, s11.2))).bind fun (s16 : List D × D) =>
    .ok (s16.2, s16.1))
end G
namespace G
open PySem L2
/-! ### the law's tape -/
def Tp (tape : List D) : Prop := ∃ (xs : List Int) (p : Nat) (b s : Int), 0 ≤ b ∧ 0 ≤ s ∧ tape = [.lst (xs.map .int), .int p, .int b, .int s]
theorem pow18 : z2 .pow (.int 10) (.int 18) = .ok (.int 1000000000000000000) := rfl
theorem mulL {a b : Int} (h : -(2 ^ 64) < b ∧ b < 2 ^ 64) : z2 .mul (.int a) (.int b) = .ok (.int (a * b)) := mul_i (.inr h)
theorem it_scr {ns : List Int} : itD .seq [.scr ns] = .ok (ns.map .int) := id rfl
theorem list_scr {ns : List Int} : z1o .list (.scr ns) = .ok (ns.map .int) := id rfl
theorem tape_ok (ns : List Int) : Zw (f_law_tape (.scr ns)) Tp := by
  unfold f_law_tape
  rw [it_scr, bind_ok']
  obtain ⟨h1, h2⟩ := fold_eq (f := fun d3 (s1 : D) =>
    (z2 .mul s1 (D.int 31)).bind fun r5 => (z1 .int d3).bind fun r6 => (z1 .abs r6).bind fun r7 => (z2 .add r5 r7).bind fun r8 => (z1 .int r8).bind fun r9 => (z2 .mod r9 (D.int 2147483647)).bind fun r10 => .ok r10)
    D.int (fun s (y : Int) => match s with | .int a => .int ((a * 31 + (y.natAbs : Nat)) % 2147483647) | s => s) (fun s => ∃ t : Int, 0 ≤ t ∧ s = .int t) (ys := ns) (s := .int 7) ⟨7, by decide, rfl⟩ (by
      rintro y _ s ⟨t, ht, rfl⟩
      refine ⟨?_, _, Int.emod_nonneg _ (by decide), rfl⟩
      simp -implicitDefEqProofs only [G.zw_ok, G.zw_no, G.zw_exc, G.bind_ok', G.nox_ok, G.add_i, G.sub_i, G.lt_i, G.le_i, G.gt_i, G.ge_i, G.eq_i, G.ne_i, G.eq_s, G.ne_s, G.eq_b, G.ne_b, G.max_i, G.min_i, G.len_t, G.len_l, G.tr_b, G.tr_i, G.tr_n, G.tr_t, G.tr_l, G.isN_n, G.isN_t, G.isN_l, G.isN_i, G.isN_s, G.isN_b, G.noN_n, G.noN_t, G.noN_l, G.noN_i, G.noN_s, G.noN_b, G.tupl_l, G.tupl_t, G.list_t, G.list_l, G.int_i, G.neg_i, G.abs_i, G.ite_b, G.and_b, G.or_b, G.not_b, G.part_i, G.un2, G.un3, G.fl_nx, G.fl_ret, G.slc_t, G.slc_l, G.it_seqT, G.it_seqL, G.it_revT, G.it_revL, G.it_enumT, G.it_enumL, G.it_zipT, G.it_zipL, G.cut_mid, G.cut_hi, G.cut_lo, G.cut_none, if_true, if_false, Bool.false_eq_true, Bool.not_true, Bool.not_false, reduceIte, decide_eq_true_eq, decide_true, decide_false, G.bind_id, mulL (a := t) (b := 31) (by decide), mod_i (a := t * 31 + (y.natAbs : Nat)) (b := 2147483647) (by decide)])
  rw [h1, bind_ok', list_scr, bind_ok']
  obtain ⟨t, ht, e⟩ := h2
  rw [e]
  exact zw_ok.mpr ⟨ns, 0, 0, t, by decide, ht, rfl⟩
theorem mod_rng (a m : Int) : ∃ v : Nat, a % max m 1 = v ∧ (v : Int) < max m 1 := by
  have h1 : 0 < max m 1 := by omega
  have h2 := Int.emod_nonneg a (by omega : max m 1 ≠ 0)
  have h3 := Int.emod_lt_of_pos a h1
  exact ⟨(a % max m 1).toNat, by omega, by omega⟩
def DrQ (m : Int) (r : D × List D) : Prop := ∃ v : Nat, r.1 = .int v ∧ (v : Int) < max m 1 ∧ Tp r.2
theorem draw_ok {t : List D} (h : Tp t) {m : Int} (hm : m < 1000000000) : Zw (f_law_draw t (.int m)) (DrQ m) := by
  obtain ⟨xs, p, b, s, hb, hs, rfl⟩ := h
  unfold f_law_draw
  have i2 : ∀ {a b c d : D}, z2 .ix (.lst [a, b, c, d]) (.int 2) = .ok c := rfl
  have i1 : ∀ {a b c d : D}, z2 .ix (.lst [a, b, c, d]) (.int 1) = .ok b := rfl
  have i0 : ∀ {a b c d : D}, z2 .ix (.lst [a, b, c, d]) (.int 0) = .ok a := rfl
  have i3 : ∀ {a b c d : D}, z2 .ix (.lst [a, b, c, d]) (.int 3) = .ok d := rfl
  have s1 : ∀ {a b c d e : D}, zst [a, b, c, d] (.int 1) e = .ok [a, e, c, d] := rfl
  have s2 : ∀ {a b c d e : D}, zst [a, b, c, d] (.int 2) e = .ok [a, b, e, d] := rfl
  have s3 : ∀ {a b c d e : D}, zst [a, b, c, d] (.int 3) e = .ok [a, b, c, e] := rfl
  have mm : ∀ a : Int, z2 .mod (.int a) (.int (max m 1)) = .ok (.int (a % max m 1)) := fun a => mod_i (by omega)
  have md : ∀ a : Int, z2 .fdiv (.int a) (.int (max m 2)) = .ok (.int (a / max m 2)) := fun a => fdiv_i (by omega) (by omega)
  have m1 : ∀ a : Int, z2 .mod (.int a) (.int 2147483647) = .ok (.int (a % 2147483647)) := fun a => mod_i (by decide)
  have m2 : ∀ a : Int, z2 .mod (.int a) (.int 2147483629) = .ok (.int (a % 2147483629)) := fun a => mod_i (by decide)
  have x1 : ∀ a : Int, z2 .mul (.int a) (.int 48271) = .ok (.int (a * 48271)) := fun a => mulL (by decide)
  have x2 : ∀ a : Int, z2 .mul (.int a) (.int 69621) = .ok (.int (a * 69621)) := fun a => mulL (by decide)
  have tail : ∀ (b s : Int) (p : Nat), 0 ≤ b → 0 ≤ s → DrQ m (.int (b % max m 1), [.lst (xs.map .int), .int p, .int (b / max m 2), .int s]) := by
    intro b s p hb hs
    obtain ⟨v, e, hv⟩ := mod_rng b m
    exact ⟨v, by rw [e], hv, xs, p, _, s, Int.ediv_nonneg hb (by omega), hs, rfl⟩
  rw [i2, bind_ok', eq_i, bind_ok', ite_b]
  split
  · rename_i hb0
    have hb0 : b = 0 := of_decide_eq_true hb0
    subst hb0
    rw [i1, bind_ok', i0, bind_ok', len_l, bind_ok', List.length_map, lt_i, bind_ok', ite_b]
    refine zc (P := fun s19 : List D × D => ∃ s x : Int, 0 ≤ s ∧ 0 ≤ x ∧ s19 = ([.lst (xs.map .int), .int p, .int 0, .int s], .int x)) ?_ ?_
    · split
      · rename_i hp
        have hp' : p < xs.length := by have := of_decide_eq_true hp; omega
        have e : z2 .ix (.lst (xs.map .int)) (.int p) = .ok (.int xs[p]) := ix_l (by simp [hp'])
        rw [bind_ok', e, bind_ok', int_i, bind_ok', abs_i, bind_ok']
        exact zw_ok.mpr ⟨s, _, hs, by omega, rfl⟩
      · rw [i3, bind_ok', x1, bind_ok', add_i, bind_ok', add_i, bind_ok', int_i, bind_ok', m1, bind_ok', s3, bind_ok', i3, bind_ok']
        exact zw_ok.mpr ⟨_, _, Int.emod_nonneg _ (by decide), Int.emod_nonneg _ (by decide), rfl⟩
    · rintro _ ⟨s, x, hs, hx, rfl⟩
      have hp : ((p : Int) + 1) = ((p + 1 : Nat) : Int) := by omega
      simp -implicitDefEqProofs only [G.zw_ok, G.zw_no, G.zw_exc, G.bind_ok', G.nox_ok, G.add_i, G.sub_i, G.lt_i, G.le_i, G.gt_i, G.ge_i, G.eq_i, G.ne_i, G.eq_s, G.ne_s, G.eq_b, G.ne_b, G.max_i, G.min_i, G.len_t, G.len_l, G.tr_b, G.tr_i, G.tr_n, G.tr_t, G.tr_l, G.isN_n, G.isN_t, G.isN_l, G.isN_i, G.isN_s, G.isN_b, G.noN_n, G.noN_t, G.noN_l, G.noN_i, G.noN_s, G.noN_b, G.tupl_l, G.tupl_t, G.list_t, G.list_l, G.int_i, G.neg_i, G.abs_i, G.ite_b, G.and_b, G.or_b, G.not_b, G.part_i, G.un2, G.un3, G.fl_nx, G.fl_ret, G.slc_t, G.slc_l, G.it_seqT, G.it_seqL, G.it_revT, G.it_revL, G.it_enumT, G.it_enumL, G.it_zipT, G.it_zipL, G.cut_mid, G.cut_hi, G.cut_lo, G.cut_none, if_true, if_false, Bool.false_eq_true, Bool.not_true, Bool.not_false, reduceIte, decide_eq_true_eq, decide_true, decide_false, G.bind_id, s1, s2, i2, pow18, x1, x2, m1, m2, mm, md]
      split
      · obtain ⟨v, e, hv⟩ := mod_rng ((x * 48271 + p * 69621 + 5) % 2147483647 * 69621 % 2147483629) m
        exact zw_ok.mpr ⟨v, by rw [e], hv, xs, p + 1, 0, s, by decide, hs, by rw [hp]⟩
      · rw [hp]
        exact zw_ok.mpr (tail x s (p + 1) hx hs)
  · simp -implicitDefEqProofs only [G.zw_ok, G.zw_no, G.zw_exc, G.bind_ok', G.nox_ok, G.add_i, G.sub_i, G.lt_i, G.le_i, G.gt_i, G.ge_i, G.eq_i, G.ne_i, G.eq_s, G.ne_s, G.eq_b, G.ne_b, G.max_i, G.min_i, G.len_t, G.len_l, G.tr_b, G.tr_i, G.tr_n, G.tr_t, G.tr_l, G.isN_n, G.isN_t, G.isN_l, G.isN_i, G.isN_s, G.isN_b, G.noN_n, G.noN_t, G.noN_l, G.noN_i, G.noN_s, G.noN_b, G.tupl_l, G.tupl_t, G.list_t, G.list_l, G.int_i, G.neg_i, G.abs_i, G.ite_b, G.and_b, G.or_b, G.not_b, G.part_i, G.un2, G.un3, G.fl_nx, G.fl_ret, G.slc_t, G.slc_l, G.it_seqT, G.it_seqL, G.it_revT, G.it_revL, G.it_enumT, G.it_enumL, G.it_zipT, G.it_zipL, G.cut_mid, G.cut_hi, G.cut_lo, G.cut_none, if_true, if_false, Bool.false_eq_true, Bool.not_true, Bool.not_false, reduceIte, decide_eq_true_eq, decide_true, decide_false, G.bind_id, i2, s2, mm, md]
    exact tail b s p hb hs
/-- a draw, as a step -/
theorem zd {α : Type} {Q : α → Prop} {t : List D} {m : Int} {f : D × List D → Z α} (ht : Tp t) (h0 : 0 < m) (h1 : m < 1000000000) (k : ∀ (v : Nat) (t' : List D), (v : Int) < m → Tp t' → Zw (f (.int v, t')) Q) : Zw ((Z.nox (f_law_draw t (.int m))).bind f) Q := by
  refine zcn (draw_ok ht h1) fun r hr => ?_
  obtain ⟨v, e, hv, ht'⟩ := hr
  obtain ⟨a, b⟩ := r
  cases e
  exact k v b (by omega) ht'
/-! ### sameness -/
/-- data that equals itself -/
def plain : Nat → D → Prop
  | _, .non => True
  | _, .bl _ => True
  | _, .int _ => True
  | _, .str _ => True
  | n + 1, .tup ds => ds.length ≤ SZ ∧ ∀ d ∈ ds, plain n d
  | _, _ => False
theorem isi0_t {xs : List D} : z1 (.isi 0) (.tup xs) = .ok (.bl true) := id rfl
theorem isi0_b {b : Bool} : z1 (.isi 0) (.bl b) = .ok (.bl false) := id rfl
theorem isi0_i {b : Int} : z1 (.isi 0) (.int b) = .ok (.bl false) := id rfl
theorem isi0_s {b : Str} : z1 (.isi 0) (.str b) = .ok (.bl false) := id rfl
theorem isi1_b {b : Bool} : z1 (.isi 1) (.bl b) = .ok (.bl true) := id rfl
theorem isi1_i {b : Int} : z1 (.isi 1) (.int b) = .ok (.bl false) := id rfl
theorem isi1_s {b : Str} : z1 (.isi 1) (.str b) = .ok (.bl false) := id rfl
theorem isi2_i {b : Int} : z1 (.isi 2) (.int b) = .ok (.bl false) := id rfl
theorem isi2_s {b : Str} : z1 (.isi 2) (.str b) = .ok (.bl true) := id rfl
theorem isi3_i {b : Int} : z1 (.isi 3) (.int b) = .ok (.bl true) := id rfl
theorem same_refl : ∀ (n : Nat) (d : D), plain n d → f_law_same (n + 1) d d = .ok (.bl true) := by
  intro n
  induction n with
  | zero =>
    intro d hd
    cases d with
    | tup ds => exact hd.elim
    | lst ds => exact hd.elim
    | scr ds => exact hd.elim
    | dct ks ds => exact hd.elim
    | non => rw [f_law_same]; simp -implicitDefEqProofs only [G.zw_ok, G.zw_no, G.zw_exc, G.bind_ok', G.nox_ok, G.add_i, G.sub_i, G.lt_i, G.le_i, G.gt_i, G.ge_i, G.eq_i, G.ne_i, G.eq_s, G.ne_s, G.eq_b, G.ne_b, G.max_i, G.min_i, G.len_t, G.len_l, G.tr_b, G.tr_i, G.tr_n, G.tr_t, G.tr_l, G.isN_n, G.isN_t, G.isN_l, G.isN_i, G.isN_s, G.isN_b, G.noN_n, G.noN_t, G.noN_l, G.noN_i, G.noN_s, G.noN_b, G.tupl_l, G.tupl_t, G.list_t, G.list_l, G.int_i, G.neg_i, G.abs_i, G.ite_b, G.and_b, G.or_b, G.not_b, G.part_i, G.un2, G.un3, G.fl_nx, G.fl_ret, G.slc_t, G.slc_l, G.it_seqT, G.it_seqL, G.it_revT, G.it_revL, G.it_enumT, G.it_enumL, G.it_zipT, G.it_zipL, G.cut_mid, G.cut_hi, G.cut_lo, G.cut_none, if_true, if_false, Bool.false_eq_true, Bool.not_true, Bool.not_false, reduceIte, decide_eq_true_eq, decide_true, decide_false, G.bind_id]
    | bl b => rw [f_law_same]; simp -implicitDefEqProofs only [G.zw_ok, G.zw_no, G.zw_exc, G.bind_ok', G.nox_ok, G.add_i, G.sub_i, G.lt_i, G.le_i, G.gt_i, G.ge_i, G.eq_i, G.ne_i, G.eq_s, G.ne_s, G.eq_b, G.ne_b, G.max_i, G.min_i, G.len_t, G.len_l, G.tr_b, G.tr_i, G.tr_n, G.tr_t, G.tr_l, G.isN_n, G.isN_t, G.isN_l, G.isN_i, G.isN_s, G.isN_b, G.noN_n, G.noN_t, G.noN_l, G.noN_i, G.noN_s, G.noN_b, G.tupl_l, G.tupl_t, G.list_t, G.list_l, G.int_i, G.neg_i, G.abs_i, G.ite_b, G.and_b, G.or_b, G.not_b, G.part_i, G.un2, G.un3, G.fl_nx, G.fl_ret, G.slc_t, G.slc_l, G.it_seqT, G.it_seqL, G.it_revT, G.it_revL, G.it_enumT, G.it_enumL, G.it_zipT, G.it_zipL, G.cut_mid, G.cut_hi, G.cut_lo, G.cut_none, if_true, if_false, Bool.false_eq_true, Bool.not_true, Bool.not_false, reduceIte, decide_eq_true_eq, decide_true, decide_false, G.bind_id, isi0_b, isi1_b]
    | int i => rw [f_law_same]; simp -implicitDefEqProofs only [G.zw_ok, G.zw_no, G.zw_exc, G.bind_ok', G.nox_ok, G.add_i, G.sub_i, G.lt_i, G.le_i, G.gt_i, G.ge_i, G.eq_i, G.ne_i, G.eq_s, G.ne_s, G.eq_b, G.ne_b, G.max_i, G.min_i, G.len_t, G.len_l, G.tr_b, G.tr_i, G.tr_n, G.tr_t, G.tr_l, G.isN_n, G.isN_t, G.isN_l, G.isN_i, G.isN_s, G.isN_b, G.noN_n, G.noN_t, G.noN_l, G.noN_i, G.noN_s, G.noN_b, G.tupl_l, G.tupl_t, G.list_t, G.list_l, G.int_i, G.neg_i, G.abs_i, G.ite_b, G.and_b, G.or_b, G.not_b, G.part_i, G.un2, G.un3, G.fl_nx, G.fl_ret, G.slc_t, G.slc_l, G.it_seqT, G.it_seqL, G.it_revT, G.it_revL, G.it_enumT, G.it_enumL, G.it_zipT, G.it_zipL, G.cut_mid, G.cut_hi, G.cut_lo, G.cut_none, if_true, if_false, Bool.false_eq_true, Bool.not_true, Bool.not_false, reduceIte, decide_eq_true_eq, decide_true, decide_false, G.bind_id, isi0_i, isi1_i, isi2_i, isi3_i]
    | str z => rw [f_law_same]; simp -implicitDefEqProofs only [G.zw_ok, G.zw_no, G.zw_exc, G.bind_ok', G.nox_ok, G.add_i, G.sub_i, G.lt_i, G.le_i, G.gt_i, G.ge_i, G.eq_i, G.ne_i, G.eq_s, G.ne_s, G.eq_b, G.ne_b, G.max_i, G.min_i, G.len_t, G.len_l, G.tr_b, G.tr_i, G.tr_n, G.tr_t, G.tr_l, G.isN_n, G.isN_t, G.isN_l, G.isN_i, G.isN_s, G.isN_b, G.noN_n, G.noN_t, G.noN_l, G.noN_i, G.noN_s, G.noN_b, G.tupl_l, G.tupl_t, G.list_t, G.list_l, G.int_i, G.neg_i, G.abs_i, G.ite_b, G.and_b, G.or_b, G.not_b, G.part_i, G.un2, G.un3, G.fl_nx, G.fl_ret, G.slc_t, G.slc_l, G.it_seqT, G.it_seqL, G.it_revT, G.it_revL, G.it_enumT, G.it_enumL, G.it_zipT, G.it_zipL, G.cut_mid, G.cut_hi, G.cut_lo, G.cut_none, if_true, if_false, Bool.false_eq_true, Bool.not_true, Bool.not_false, reduceIte, decide_eq_true_eq, decide_true, decide_false, G.bind_id, isi0_s, isi1_s, isi2_s]
  | succ n ih =>
    intro d hd
    cases d with
    | lst ds => exact hd.elim
    | scr ds => exact hd.elim
    | dct ks ds => exact hd.elim
    | non => rw [f_law_same]; simp -implicitDefEqProofs only [G.zw_ok, G.zw_no, G.zw_exc, G.bind_ok', G.nox_ok, G.add_i, G.sub_i, G.lt_i, G.le_i, G.gt_i, G.ge_i, G.eq_i, G.ne_i, G.eq_s, G.ne_s, G.eq_b, G.ne_b, G.max_i, G.min_i, G.len_t, G.len_l, G.tr_b, G.tr_i, G.tr_n, G.tr_t, G.tr_l, G.isN_n, G.isN_t, G.isN_l, G.isN_i, G.isN_s, G.isN_b, G.noN_n, G.noN_t, G.noN_l, G.noN_i, G.noN_s, G.noN_b, G.tupl_l, G.tupl_t, G.list_t, G.list_l, G.int_i, G.neg_i, G.abs_i, G.ite_b, G.and_b, G.or_b, G.not_b, G.part_i, G.un2, G.un3, G.fl_nx, G.fl_ret, G.slc_t, G.slc_l, G.it_seqT, G.it_seqL, G.it_revT, G.it_revL, G.it_enumT, G.it_enumL, G.it_zipT, G.it_zipL, G.cut_mid, G.cut_hi, G.cut_lo, G.cut_none, if_true, if_false, Bool.false_eq_true, Bool.not_true, Bool.not_false, reduceIte, decide_eq_true_eq, decide_true, decide_false, G.bind_id]
    | bl b => rw [f_law_same]; simp -implicitDefEqProofs only [G.zw_ok, G.zw_no, G.zw_exc, G.bind_ok', G.nox_ok, G.add_i, G.sub_i, G.lt_i, G.le_i, G.gt_i, G.ge_i, G.eq_i, G.ne_i, G.eq_s, G.ne_s, G.eq_b, G.ne_b, G.max_i, G.min_i, G.len_t, G.len_l, G.tr_b, G.tr_i, G.tr_n, G.tr_t, G.tr_l, G.isN_n, G.isN_t, G.isN_l, G.isN_i, G.isN_s, G.isN_b, G.noN_n, G.noN_t, G.noN_l, G.noN_i, G.noN_s, G.noN_b, G.tupl_l, G.tupl_t, G.list_t, G.list_l, G.int_i, G.neg_i, G.abs_i, G.ite_b, G.and_b, G.or_b, G.not_b, G.part_i, G.un2, G.un3, G.fl_nx, G.fl_ret, G.slc_t, G.slc_l, G.it_seqT, G.it_seqL, G.it_revT, G.it_revL, G.it_enumT, G.it_enumL, G.it_zipT, G.it_zipL, G.cut_mid, G.cut_hi, G.cut_lo, G.cut_none, if_true, if_false, Bool.false_eq_true, Bool.not_true, Bool.not_false, reduceIte, decide_eq_true_eq, decide_true, decide_false, G.bind_id, isi0_b, isi1_b]
    | int i => rw [f_law_same]; simp -implicitDefEqProofs only [G.zw_ok, G.zw_no, G.zw_exc, G.bind_ok', G.nox_ok, G.add_i, G.sub_i, G.lt_i, G.le_i, G.gt_i, G.ge_i, G.eq_i, G.ne_i, G.eq_s, G.ne_s, G.eq_b, G.ne_b, G.max_i, G.min_i, G.len_t, G.len_l, G.tr_b, G.tr_i, G.tr_n, G.tr_t, G.tr_l, G.isN_n, G.isN_t, G.isN_l, G.isN_i, G.isN_s, G.isN_b, G.noN_n, G.noN_t, G.noN_l, G.noN_i, G.noN_s, G.noN_b, G.tupl_l, G.tupl_t, G.list_t, G.list_l, G.int_i, G.neg_i, G.abs_i, G.ite_b, G.and_b, G.or_b, G.not_b, G.part_i, G.un2, G.un3, G.fl_nx, G.fl_ret, G.slc_t, G.slc_l, G.it_seqT, G.it_seqL, G.it_revT, G.it_revL, G.it_enumT, G.it_enumL, G.it_zipT, G.it_zipL, G.cut_mid, G.cut_hi, G.cut_lo, G.cut_none, if_true, if_false, Bool.false_eq_true, Bool.not_true, Bool.not_false, reduceIte, decide_eq_true_eq, decide_true, decide_false, G.bind_id, isi0_i, isi1_i, isi2_i, isi3_i]
    | str z => rw [f_law_same]; simp -implicitDefEqProofs only [G.zw_ok, G.zw_no, G.zw_exc, G.bind_ok', G.nox_ok, G.add_i, G.sub_i, G.lt_i, G.le_i, G.gt_i, G.ge_i, G.eq_i, G.ne_i, G.eq_s, G.ne_s, G.eq_b, G.ne_b, G.max_i, G.min_i, G.len_t, G.len_l, G.tr_b, G.tr_i, G.tr_n, G.tr_t, G.tr_l, G.isN_n, G.isN_t, G.isN_l, G.isN_i, G.isN_s, G.isN_b, G.noN_n, G.noN_t, G.noN_l, G.noN_i, G.noN_s, G.noN_b, G.tupl_l, G.tupl_t, G.list_t, G.list_l, G.int_i, G.neg_i, G.abs_i, G.ite_b, G.and_b, G.or_b, G.not_b, G.part_i, G.un2, G.un3, G.fl_nx, G.fl_ret, G.slc_t, G.slc_l, G.it_seqT, G.it_seqL, G.it_revT, G.it_revL, G.it_enumT, G.it_enumL, G.it_zipT, G.it_zipL, G.cut_mid, G.cut_hi, G.cut_lo, G.cut_none, if_true, if_false, Bool.false_eq_true, Bool.not_true, Bool.not_false, reduceIte, decide_eq_true_eq, decide_true, decide_false, G.bind_id, isi0_s, isi1_s, isi2_s]
    | tup xs =>
      obtain ⟨hz, hx⟩ := hd
      rw [f_law_same]
      simp -implicitDefEqProofs only [G.zw_ok, G.zw_no, G.zw_exc, G.bind_ok', G.nox_ok, G.add_i, G.sub_i, G.lt_i, G.le_i, G.gt_i, G.ge_i, G.eq_i, G.ne_i, G.eq_s, G.ne_s, G.eq_b, G.ne_b, G.max_i, G.min_i, G.len_t, G.len_l, G.tr_b, G.tr_i, G.tr_n, G.tr_t, G.tr_l, G.isN_n, G.isN_t, G.isN_l, G.isN_i, G.isN_s, G.isN_b, G.noN_n, G.noN_t, G.noN_l, G.noN_i, G.noN_s, G.noN_b, G.tupl_l, G.tupl_t, G.list_t, G.list_l, G.int_i, G.neg_i, G.abs_i, G.ite_b, G.and_b, G.or_b, G.not_b, G.part_i, G.un2, G.un3, G.fl_nx, G.fl_ret, G.slc_t, G.slc_l, G.it_seqT, G.it_seqL, G.it_revT, G.it_revL, G.it_enumT, G.it_enumL, G.it_zipT, G.it_zipL, G.cut_mid, G.cut_hi, G.cut_lo, G.cut_none, if_true, if_false, Bool.false_eq_true, Bool.not_true, Bool.not_false, reduceIte, decide_eq_true_eq, decide_true, decide_false, G.bind_id, isi0_t, it_rngN hz]
      rw [for_all (fun k : Nat => D.int k) (fun _ => true) (D.bl false)]
      · simp [bind_ok', fl_nx]
      · intro k hk
        have hk' : k < xs.length := List.mem_range.mp hk
        have e : z2 .ix (.tup xs) (.int k) = .ok xs[k] := ix_t (by simp [hk'])
        simp -implicitDefEqProofs only [G.zw_ok, G.zw_no, G.zw_exc, G.bind_ok', G.nox_ok, G.add_i, G.sub_i, G.lt_i, G.le_i, G.gt_i, G.ge_i, G.eq_i, G.ne_i, G.eq_s, G.ne_s, G.eq_b, G.ne_b, G.max_i, G.min_i, G.len_t, G.len_l, G.tr_b, G.tr_i, G.tr_n, G.tr_t, G.tr_l, G.isN_n, G.isN_t, G.isN_l, G.isN_i, G.isN_s, G.isN_b, G.noN_n, G.noN_t, G.noN_l, G.noN_i, G.noN_s, G.noN_b, G.tupl_l, G.tupl_t, G.list_t, G.list_l, G.int_i, G.neg_i, G.abs_i, G.ite_b, G.and_b, G.or_b, G.not_b, G.part_i, G.un2, G.un3, G.fl_nx, G.fl_ret, G.slc_t, G.slc_l, G.it_seqT, G.it_seqL, G.it_revT, G.it_revL, G.it_enumT, G.it_enumL, G.it_zipT, G.it_zipL, G.cut_mid, G.cut_hi, G.cut_lo, G.cut_none, if_true, if_false, Bool.false_eq_true, Bool.not_true, Bool.not_false, reduceIte, decide_eq_true_eq, decide_true, decide_false, G.bind_id, e, ih _ (hx _ (List.getElem_mem hk'))]
end G
namespace G
open PySem L2
/-! ### texts and edits -/
abbrev Tx := List Str
def tx (t : Tx) : D := .tup (t.map .str)
structure Ed where
  p : Nat
  r : Tx
  i : Tx
def ed (e : Ed) : D := .tup [.int e.p, tx e.r, tx e.i]
def eds (es : List Ed) : D := .tup (es.map ed)
def Ed.e (e : Ed) : Nat := e.p + e.r.length
def fits (t : Tx) (e : Ed) : Bool := decide (e.e ≤ t.length) && decide ((t.drop e.p).take e.r.length = e.r)
def inOrd : List Ed → Bool
  | [] => true
  | [_] => true
  | a :: b :: r => decide (a.e ≤ b.p) && inOrd (b :: r)
theorem toPys_str : ∀ t : Tx, toPys (t.map .str) = some (t.map PyData.str)
  | [] => by rw [List.map_nil, toPys]; rfl
  | s :: t => by rw [List.map_cons, toPys, toPy, toPys_str t]; rfl
theorem depth_str : ∀ t : Tx, PyData.depthAll (t.map PyData.str) ≤ 1
  | [] => by simp [PyData.depthAll]
  | s :: t => by
    have := depth_str t
    simp only [List.map_cons, PyData.depthAll, PyData.depth]
    omega
theorem eqv_str : ∀ a b : Tx, PyData.eqvAll (a.map PyData.str) (b.map PyData.str) = decide (a = b)
  | [], [] => by simp [PyData.eqvAll]
  | [], _ :: _ => by simp [PyData.eqvAll]
  | _ :: _, [] => by simp [PyData.eqvAll]
  | x :: a, y :: b => by
    simp only [List.map_cons, PyData.eqvAll, PyData.eqv, eqv_str a b, List.cons.injEq, Bool.decide_and]
    rfl
theorem eq_tx {a b : Tx} : z2 .eq (tx a) (tx b) = .ok (.bl (decide (a = b))) := by
  have h1 : toPy (tx a) = some (.tuple (a.map PyData.str)) := by rw [tx, toPy, toPys_str]; rfl
  have h2 : toPy (tx b) = some (.tuple (b.map PyData.str)) := by rw [tx, toPy, toPys_str]; rfl
  have h3 : eqD (tx a) (tx b) = some (decide (a = b)) := by
    have : deq (tx a) (tx b) = none := rfl
    unfold eqD
    rw [this]
    unfold deqD
    rw [h1, h2]
    have hd : (PyData.tuple (a.map PyData.str)).depth ≤ 64 := by
      have := depth_str a
      simp only [PyData.depth]
      omega
    simp only [hd, if_true, PyData.eqv, eqv_str]
  unfold z2 p2
  simp only [h3, Option.map_some, zval]
theorem len_tx {t : Tx} : z1 .len (tx t) = .ok (.int t.length) := by unfold tx; rw [len_t, List.length_map]
theorem slc_tx {t : Tx} {a b : Nat} : zslc (tx t) (some (a : Int)) (some (b : Int)) = .ok (tx ((t.drop a).take (b - a))) := by
  unfold tx; rw [slc_t, cut_mid, List.map_take, List.map_drop]
theorem slc_txH {t : Tx} {b : Nat} : zslc (tx t) none (some (b : Int)) = .ok (tx (t.take b)) := by
  unfold tx; rw [slc_t, cut_hi, List.map_take]
theorem slc_txL {t : Tx} {b : Nat} : zslc (tx t) (some (b : Int)) none = .ok (tx (t.drop b)) := by
  unfold tx; rw [slc_t, cut_lo, List.map_drop]
theorem add_tx {a b : Tx} (h : a.length + b.length ≤ SZ) : z2 .add (tx a) (tx b) = .ok (tx (a ++ b)) := by
  unfold tx; rw [add_t (by simpa using h), List.map_append]
theorem un3_ed {e : Ed} : zun3 (ed e) = .ok (.int e.p, tx e.r, tx e.i) := rfl
theorem ed_0 {e : Ed} : z2 .ix (ed e) (.int 0) = .ok (.int e.p) := ix_t (k := 0) rfl
theorem ed_1 {e : Ed} : z2 .ix (ed e) (.int 1) = .ok (tx e.r) := ix_t (k := 1) rfl
theorem ed_2 {e : Ed} : z2 .ix (ed e) (.int 2) = .ok (tx e.i) := ix_t (k := 2) rfl
theorem end_of_ok (e : Ed) : f_end_of (ed e) = .ok (.int e.e) := by
  unfold f_end_of
  simp -implicitDefEqProofs only [G.zw_ok, G.zw_no, G.zw_exc, G.bind_ok', G.nox_ok, G.add_i, G.sub_i, G.lt_i, G.le_i, G.gt_i, G.ge_i, G.eq_i, G.ne_i, G.eq_s, G.ne_s, G.eq_b, G.ne_b, G.max_i, G.min_i, G.len_t, G.len_l, G.tr_b, G.tr_i, G.tr_n, G.tr_t, G.tr_l, G.isN_n, G.isN_t, G.isN_l, G.isN_i, G.isN_s, G.isN_b, G.noN_n, G.noN_t, G.noN_l, G.noN_i, G.noN_s, G.noN_b, G.tupl_l, G.tupl_t, G.list_t, G.list_l, G.int_i, G.neg_i, G.abs_i, G.ite_b, G.and_b, G.or_b, G.not_b, G.part_i, G.un2, G.un3, G.fl_nx, G.fl_ret, G.slc_t, G.slc_l, G.it_seqT, G.it_seqL, G.it_revT, G.it_revL, G.it_enumT, G.it_enumL, G.it_zipT, G.it_zipL, G.cut_mid, G.cut_hi, G.cut_lo, G.cut_none, if_true, if_false, Bool.false_eq_true, Bool.not_true, Bool.not_false, reduceIte, decide_eq_true_eq, decide_true, decide_false, G.bind_id, un3_ed, len_tx]
  simp [Ed.e]
theorem law_end_ok (e : Ed) : f_law_end (ed e) = .ok (.int e.e) := by
  unfold f_law_end
  simp -implicitDefEqProofs only [G.zw_ok, G.zw_no, G.zw_exc, G.bind_ok', G.nox_ok, G.add_i, G.sub_i, G.lt_i, G.le_i, G.gt_i, G.ge_i, G.eq_i, G.ne_i, G.eq_s, G.ne_s, G.eq_b, G.ne_b, G.max_i, G.min_i, G.len_t, G.len_l, G.tr_b, G.tr_i, G.tr_n, G.tr_t, G.tr_l, G.isN_n, G.isN_t, G.isN_l, G.isN_i, G.isN_s, G.isN_b, G.noN_n, G.noN_t, G.noN_l, G.noN_i, G.noN_s, G.noN_b, G.tupl_l, G.tupl_t, G.list_t, G.list_l, G.int_i, G.neg_i, G.abs_i, G.ite_b, G.and_b, G.or_b, G.not_b, G.part_i, G.un2, G.un3, G.fl_nx, G.fl_ret, G.slc_t, G.slc_l, G.it_seqT, G.it_seqL, G.it_revT, G.it_revL, G.it_enumT, G.it_enumL, G.it_zipT, G.it_zipL, G.cut_mid, G.cut_hi, G.cut_lo, G.cut_none, if_true, if_false, Bool.false_eq_true, Bool.not_true, Bool.not_false, reduceIte, decide_eq_true_eq, decide_true, decide_false, G.bind_id, ed_0, ed_1, len_tx]
  simp [Ed.e]
theorem applies_ok (t : Tx) (e : Ed) : f_applies (tx t) (ed e) = .ok (.bl (fits t e)) := by
  unfold f_applies
  rw [un3_ed, bind_ok']
  dsimp only
  have h0 : decide ((0 : Int) ≤ (e.p : Int)) = true := by simp
  have h1 : e.e - e.p = e.r.length := by unfold Ed.e; omega
  simp -implicitDefEqProofs only [G.zw_ok, G.zw_no, G.zw_exc, G.bind_ok', G.nox_ok, G.add_i, G.sub_i, G.lt_i, G.le_i, G.gt_i, G.ge_i, G.eq_i, G.ne_i, G.eq_s, G.ne_s, G.eq_b, G.ne_b, G.max_i, G.min_i, G.len_t, G.len_l, G.tr_b, G.tr_i, G.tr_n, G.tr_t, G.tr_l, G.isN_n, G.isN_t, G.isN_l, G.isN_i, G.isN_s, G.isN_b, G.noN_n, G.noN_t, G.noN_l, G.noN_i, G.noN_s, G.noN_b, G.tupl_l, G.tupl_t, G.list_t, G.list_l, G.int_i, G.neg_i, G.abs_i, G.ite_b, G.and_b, G.or_b, G.not_b, G.part_i, G.un2, G.un3, G.fl_nx, G.fl_ret, G.slc_t, G.slc_l, G.it_seqT, G.it_seqL, G.it_revT, G.it_revL, G.it_enumT, G.it_enumL, G.it_zipT, G.it_zipL, G.cut_mid, G.cut_hi, G.cut_lo, G.cut_none, if_true, if_false, Bool.false_eq_true, Bool.not_true, Bool.not_false, reduceIte, decide_eq_true_eq, decide_true, decide_false, G.bind_id, end_of_ok, len_tx, slc_tx, eq_tx, h0, h1]
  unfold fits
  by_cases h : e.e ≤ t.length
  · have h' : decide ((e.e : Int) ≤ (t.length : Int)) = true := by simp [h]
    simp [h]
  · simp [h]
theorem law_fits_ok (t : Tx) (e : Ed) : f_law_fits (tx t) (ed e) = .ok (.bl (fits t e)) := by
  unfold f_law_fits
  have h1 : e.e - e.p = e.r.length := by unfold Ed.e; omega
  simp -implicitDefEqProofs only [G.zw_ok, G.zw_no, G.zw_exc, G.bind_ok', G.nox_ok, G.add_i, G.sub_i, G.lt_i, G.le_i, G.gt_i, G.ge_i, G.eq_i, G.ne_i, G.eq_s, G.ne_s, G.eq_b, G.ne_b, G.max_i, G.min_i, G.len_t, G.len_l, G.tr_b, G.tr_i, G.tr_n, G.tr_t, G.tr_l, G.isN_n, G.isN_t, G.isN_l, G.isN_i, G.isN_s, G.isN_b, G.noN_n, G.noN_t, G.noN_l, G.noN_i, G.noN_s, G.noN_b, G.tupl_l, G.tupl_t, G.list_t, G.list_l, G.int_i, G.neg_i, G.abs_i, G.ite_b, G.and_b, G.or_b, G.not_b, G.part_i, G.un2, G.un3, G.fl_nx, G.fl_ret, G.slc_t, G.slc_l, G.it_seqT, G.it_seqL, G.it_revT, G.it_revL, G.it_enumT, G.it_enumL, G.it_zipT, G.it_zipL, G.cut_mid, G.cut_hi, G.cut_lo, G.cut_none, if_true, if_false, Bool.false_eq_true, Bool.not_true, Bool.not_false, reduceIte, decide_eq_true_eq, decide_true, decide_false, G.bind_id, law_end_ok, len_tx, ed_0, ed_1, slc_tx, eq_tx, h1]
  unfold fits
  by_cases h : e.e ≤ t.length
  · simp [h]
  · simp [h]
theorem inOrd_zip : ∀ es : List Ed, ((es.zip (es.drop 1)).map fun p => decide (p.1.e ≤ p.2.p)).all id = inOrd es
  | [] => rfl
  | [_] => rfl
  | a :: b :: r => by
    have := inOrd_zip (b :: r)
    simp only [List.drop_succ_cons, List.drop_zero] at this
    simp only [List.drop_succ_cons, List.drop_zero, List.zip_cons_cons, List.map_cons, List.all_cons, id, inOrd]
    rw [this]
theorem in_order_ok (es : List Ed) (hl : es.length ≤ SZ) : f_in_order (eds es) = .ok (.bl (inOrd es)) := by
  unfold f_in_order eds
  have h1 : ((1 : Int)) = ((1 : Nat) : Int) := rfl
  simp -implicitDefEqProofs only [G.zw_ok, G.zw_no, G.zw_exc, G.bind_ok', G.nox_ok, G.add_i, G.sub_i, G.lt_i, G.le_i, G.gt_i, G.ge_i, G.eq_i, G.ne_i, G.eq_s, G.ne_s, G.eq_b, G.ne_b, G.max_i, G.min_i, G.len_t, G.len_l, G.tr_b, G.tr_i, G.tr_n, G.tr_t, G.tr_l, G.isN_n, G.isN_t, G.isN_l, G.isN_i, G.isN_s, G.isN_b, G.noN_n, G.noN_t, G.noN_l, G.noN_i, G.noN_s, G.noN_b, G.tupl_l, G.tupl_t, G.list_t, G.list_l, G.int_i, G.neg_i, G.abs_i, G.ite_b, G.and_b, G.or_b, G.not_b, G.part_i, G.un2, G.un3, G.fl_nx, G.fl_ret, G.slc_t, G.slc_l, G.it_seqT, G.it_seqL, G.it_revT, G.it_revL, G.it_enumT, G.it_enumL, G.it_zipT, G.it_zipL, G.cut_mid, G.cut_hi, G.cut_lo, G.cut_none, if_true, if_false, Bool.false_eq_true, Bool.not_true, Bool.not_false, reduceIte, decide_eq_true_eq, decide_true, decide_false, G.bind_id, h1]
  have e1 : (((es.map ed).zip ((es.map ed).drop 1)).map fun p => D.tup [p.1, p.2]) = (es.zip (es.drop 1)).map fun p => D.tup [ed p.1, ed p.2] := by
    rw [← List.map_drop, List.zip_map, List.map_map]
    rfl
  rw [e1, map_eq (fun p : Ed × Ed => D.tup [ed p.1, ed p.2]) (fun p => .bl (decide (p.1.e ≤ p.2.p))) (by simp; omega) (by
    intro y _
    simp -implicitDefEqProofs only [G.zw_ok, G.zw_no, G.zw_exc, G.bind_ok', G.nox_ok, G.add_i, G.sub_i, G.lt_i, G.le_i, G.gt_i, G.ge_i, G.eq_i, G.ne_i, G.eq_s, G.ne_s, G.eq_b, G.ne_b, G.max_i, G.min_i, G.len_t, G.len_l, G.tr_b, G.tr_i, G.tr_n, G.tr_t, G.tr_l, G.isN_n, G.isN_t, G.isN_l, G.isN_i, G.isN_s, G.isN_b, G.noN_n, G.noN_t, G.noN_l, G.noN_i, G.noN_s, G.noN_b, G.tupl_l, G.tupl_t, G.list_t, G.list_l, G.int_i, G.neg_i, G.abs_i, G.ite_b, G.and_b, G.or_b, G.not_b, G.part_i, G.un2, G.un3, G.fl_nx, G.fl_ret, G.slc_t, G.slc_l, G.it_seqT, G.it_seqL, G.it_revT, G.it_revL, G.it_enumT, G.it_enumL, G.it_zipT, G.it_zipL, G.cut_mid, G.cut_hi, G.cut_lo, G.cut_none, if_true, if_false, Bool.false_eq_true, Bool.not_true, Bool.not_false, reduceIte, decide_eq_true_eq, decide_true, decide_false, G.bind_id, end_of_ok, ed_0]
    simp)]
  have e2 : ((es.zip (es.drop 1)).map fun p => D.bl (decide (p.1.e ≤ p.2.p))) = ((es.zip (es.drop 1)).map fun p => decide (p.1.e ≤ p.2.p)).map D.bl := by rw [List.map_map]; rfl
  simp -implicitDefEqProofs only [G.zw_ok, G.zw_no, G.zw_exc, G.bind_ok', G.nox_ok, G.add_i, G.sub_i, G.lt_i, G.le_i, G.gt_i, G.ge_i, G.eq_i, G.ne_i, G.eq_s, G.ne_s, G.eq_b, G.ne_b, G.max_i, G.min_i, G.len_t, G.len_l, G.tr_b, G.tr_i, G.tr_n, G.tr_t, G.tr_l, G.isN_n, G.isN_t, G.isN_l, G.isN_i, G.isN_s, G.isN_b, G.noN_n, G.noN_t, G.noN_l, G.noN_i, G.noN_s, G.noN_b, G.tupl_l, G.tupl_t, G.list_t, G.list_l, G.int_i, G.neg_i, G.abs_i, G.ite_b, G.and_b, G.or_b, G.not_b, G.part_i, G.un2, G.un3, G.fl_nx, G.fl_ret, G.slc_t, G.slc_l, G.it_seqT, G.it_seqL, G.it_revT, G.it_revL, G.it_enumT, G.it_enumL, G.it_zipT, G.it_zipL, G.cut_mid, G.cut_hi, G.cut_lo, G.cut_none, if_true, if_false, Bool.false_eq_true, Bool.not_true, Bool.not_false, reduceIte, decide_eq_true_eq, decide_true, decide_false, G.bind_id]
  rw [e2, all_bs, inOrd_zip]
theorem inOrd_rng : ∀ es : List Ed, ((List.range (es.length - 1)).all fun k => match es[k]?, es[k + 1]? with | some a, some b => decide (a.e ≤ b.p) | _, _ => true) = inOrd es
  | [] => rfl
  | [_] => rfl
  | a :: b :: r => by
    have := inOrd_rng (b :: r)
    simp only [List.length_cons, Nat.add_sub_cancel] at this ⊢
    rw [List.range_succ_eq_map, List.all_cons, List.all_map]
    simp only [List.getElem?_cons_zero, List.getElem?_cons_succ, Nat.zero_add, inOrd]
    rw [← this]
    rfl
theorem ed_at {es : List Ed} {k : Nat} {e : Ed} (h : es[k]? = some e) : z2 .ix (eds es) (.int k) = .ok (ed e) := ix_t (by rw [List.getElem?_map, h]; rfl)
theorem law_ordered_ok (es : List Ed) (hl : es.length ≤ SZ) : f_law_ordered (eds es) = .ok (.bl (inOrd es)) := by
  unfold f_law_ordered
  have e0 : z1 .len (eds es) = .ok (.int es.length) := by unfold eds; rw [len_t, List.length_map]
  have h1 : (D.int 1) = D.int ((1 : Nat) : Int) := rfl
  rw [e0, bind_ok', h1, it_rng2 hl (by decide), bind_ok']
  have e1 : ((List.range (es.length - 1)).map fun k => D.int ((1 + k : Nat) : Int)) = ((List.range (es.length - 1)).map fun k => (fun k : Nat => D.int ((k + 1 : Nat) : Int)) k) := by
    apply List.map_congr_left
    intro k _
    rw [Nat.add_comm]
  rw [e1, for_all (fun k : Nat => D.int ((k + 1 : Nat) : Int)) (fun k => match es[k]?, es[k + 1]? with | some a, some b => decide (a.e ≤ b.p) | _, _ => true) (D.bl false)]
  · rw [inOrd_rng]
    cases inOrd es <;> rfl
  · intro k hk
    have hk : k < es.length - 1 := List.mem_range.mp hk
    have a1 : es[k]? = some es[k] := List.getElem?_eq_getElem (by omega)
    have a2 : es[k + 1]? = some es[k + 1] := List.getElem?_eq_getElem (by omega)
    have a3 : (((k + 1 : Nat) : Int) - ((1 : Nat) : Int)) = (k : Int) := by omega
    rw [sub_i, bind_ok', a3, ed_at a1, bind_ok', law_end_ok, bind_ok', ed_at a2, bind_ok', ed_0, bind_ok', gt_i, bind_ok', ite_b, a1, a2]
    by_cases h : es[k].e ≤ es[k + 1].p
    · simp [h]
    · simp [h]
/-! #### origins and results -/
inductive Or where
  | kept (j : Nat) | ins (e k : Nat)
def orD : Or → D
  | .kept j => .tup [.str "kept", .int j]
  | .ins e k => .tup [.str "inserted", .int e, .int k]
def keptL (a b : Nat) : List Or := (List.range (b - a)).map fun k => .kept (a + k)
def insL (n m : Nat) : List Or := (List.range m).map fun k => .ins n k
def orgs (len : Nat) : Nat → Nat → List Ed → List Or
  | k, _, [] => keptL k len
  | k, n, e :: es => keptL k e.p ++ insL n e.i.length ++ orgs len e.e (n + 1) es
theorem orgs_len (len : Nat) : ∀ (k n : Nat) (es : List Ed) (B : Nat), len ≤ B → (∀ e ∈ es, e.p ≤ B ∧ e.i.length ≤ B) → (orgs len k n es).length ≤ (2 * es.length + 1) * B
  | k, n, [], B, h, _ => by
    simp only [orgs, keptL, List.length_map, List.length_range, List.length_nil]
    omega
  | k, n, e :: es, B, h, h2 => by
    have ih := orgs_len len e.e (n + 1) es B h fun e he => h2 e (List.mem_cons_of_mem _ he)
    have h3 := h2 e (List.mem_cons_self ..)
    simp only [orgs, keptL, insL, List.length_append, List.length_map, List.length_range, List.length_cons]
    have : (2 * (es.length + 1) + 1) * B = (2 * es.length + 1) * B + 2 * B := by rw [← Nat.add_mul]; congr 1
    omega
def EsB (es : List Ed) : Prop := es.length ≤ 1000 ∧ ∀ e ∈ es, e.p ≤ 1000 ∧ e.r.length ≤ 1000 ∧ e.i.length ≤ 1000
theorem orgs_sz {len k n : Nat} {es : List Ed} (h : EsB es) (hl : len ≤ 1000) : (orgs len k n es).length ≤ 2001000 := by
  have := orgs_len len k n es 1000 hl fun e he => ⟨(h.2 e he).1, (h.2 e he).2.2⟩
  have h2 := h.1
  have : (2 * es.length + 1) * 1000 ≤ 2001 * 1000 := Nat.mul_le_mul_right _ (by omega)
  omega
def okE (t : Tx) (es : List Ed) : Bool := inOrd es && es.all (fits t)
theorem map_kept {a b : Nat} : ((List.range (b - a)).map fun k => D.int ((a + k : Nat) : Int)).map (fun d => D.tup [.str "kept", d]) = (keptL a b).map orD := by
  unfold keptL
  rw [List.map_map, List.map_map]
  rfl
theorem mapZ_pure (xs : List D) (g : D → D) (h : xs.length ≤ SZ) : mapZ (fun d => .ok (g d)) xs = .ok (xs.map g) := by
  have := map_eq (f := fun d => Z.ok (g d)) id g (ys := xs) h (fun y _ => rfl)
  simpa using this
theorem origins_ok (t : Tx) (es : List Ed) (h : EsB es) (ht : t.length ≤ 1000) : f_line_origins (tx t) (eds es) = .ok (if okE t es = true then .tup ((orgs t.length 0 0 es).map orD) else .non) := by
  unfold f_line_origins
  have hS : (2001000 : Nat) ≤ SZ := by decide
  have hl : es.length ≤ SZ := by have := h.1; omega
  rw [in_order_ok es hl, bind_ok', tr_b, bind_ok', not_b, bind_ok', or_b]
  have e1 : (itD .seq [eds es]) = .ok (es.map ed) := rfl
  rw [e1, bind_ok', map_eq ed (fun e => .bl (fits t e)) hl (by intro y _; rw [applies_ok]; rfl), bind_ok']
  have e2 : (es.map fun e => D.bl (fits t e)) = (es.map (fits t)).map D.bl := by rw [List.map_map]; rfl
  rw [e2, all_bs, bind_ok', tr_b, bind_ok', not_b, bind_ok']
  have e3 : ((es.map (fits t)).all id) = es.all (fits t) := by rw [List.all_map]; rfl
  rw [e3]
  have e4 : (if (!inOrd es) = true then Z.ok (D.bl true) else Z.ok (D.bl !es.all (fits t))) = .ok (.bl (!okE t es)) := by
    unfold okE
    cases inOrd es <;> cases es.all (fits t) <;> rfl
  rw [e4, bind_ok', ite_b]
  cases hk : okE t es with
  | false => rfl
  | true =>
    have e5 : itD .enum [eds es] = .ok ((es.zipIdx).map fun p => D.tup [.int (p.2 : Nat), ed p.1]) := by
      unfold eds
      rw [it_enumT, List.zipIdx_map, List.map_map]
      rfl
    simp only [Bool.not_true, Bool.false_eq_true, if_false, if_true]
    rw [e5, bind_ok']
    refine Zw.eq ?_
    refine zc (P := fun s : List D × D => ∃ k acc, s = (acc, .int (k : Nat)) ∧ k ≤ 2000 ∧ acc ++ (keptL k t.length).map orD = (orgs t.length 0 0 es).map orD) ?_ ?_
    · refine zw_fold (fun rest s => ∃ (es' : List Ed) (n k : Nat) (acc : List D), rest = (es'.zipIdx n).map (fun p => D.tup [.int (p.2 : Nat), ed p.1]) ∧ s = (acc, .int k) ∧ k ≤ 2000 ∧ (∀ e ∈ es', e ∈ es) ∧ acc ++ (orgs t.length k n es').map orD = (orgs t.length 0 0 es).map orD) ⟨es, 0, 0, [], rfl, rfl, by omega, fun e he => he, rfl⟩ ?_ ?_
      · rintro d ds s ⟨es', n, k, acc, hr, rfl, hkb, hm, ha⟩
        cases es' with
        | nil => cases hr
        | cons e es' =>
          rw [List.zipIdx_cons, List.map_cons, List.cons.injEq] at hr
          obtain ⟨rfl, rfl⟩ := hr
          have hb := h.2 e (hm e (List.mem_cons_self ..))
          have hsz := orgs_sz (k := 0) (n := 0) h ht
          have hsum : acc.length + (orgs t.length k n (e :: es')).length = (orgs t.length 0 0 es).length := by
            have := congrArg List.length ha
            simpa using this
          simp only [orgs, List.length_append] at hsum
          have s1 : acc.length + ((keptL k e.p).map orD).length ≤ SZ := by simp; omega
          have s2 : (acc ++ (keptL k e.p).map orD).length + ((insL n e.i.length).map orD).length ≤ SZ := by simp; omega
          have m1 : mapZ (fun d19 => Z.ok (D.tup [(D.str "kept"), d19])) ((List.range (e.p - k)).map fun j => D.int ((k + j : Nat) : Int)) = .ok ((keptL k e.p).map orD) := by
            rw [mapZ_pure _ (fun d => D.tup [.str "kept", d]) (by simp; omega), map_kept]
          have m2 : mapZ (fun d26 => Z.ok (D.tup [(D.str "inserted"), .int n, d26])) ((List.range e.i.length).map fun j => D.int (j : Nat)) = .ok ((insL n e.i.length).map orD) := by
            rw [mapZ_pure _ (fun d => D.tup [.str "inserted", .int n, d]) (by simp; omega)]
            unfold insL
            rw [List.map_map, List.map_map]
            rfl
          dsimp only
          rw [un2, bind_ok', ed_0, bind_ok', it_rng2 (by omega) (by omega), bind_ok', m1, bind_ok', ext_ok s1, bind_ok', ed_2, bind_ok', len_tx, bind_ok', it_rngN (by omega), bind_ok', m2, bind_ok', ext_ok s2, bind_ok', end_of_ok, bind_ok', zw_ok]
          refine ⟨es', n + 1, e.e, _, rfl, rfl, by unfold Ed.e; omega, fun e he => hm e (List.mem_cons_of_mem _ he), ?_⟩
          rw [← ha]
          simp [orgs]
      · rintro s ⟨es', n, k, acc, hr, rfl, hkb, hm, ha⟩
        cases es' with
        | nil => exact ⟨k, acc, rfl, hkb, by simpa [orgs] using ha⟩
        | cons e es' => simp at hr
    · rintro s ⟨k, acc, rfl, hkb, ha⟩
      have hsz := orgs_sz (k := 0) (n := 0) h ht
      have hsum : acc.length + ((keptL k t.length).map orD).length = (orgs t.length 0 0 es).length := by
        have := congrArg List.length ha
        simpa using this
      have m1 : mapZ (fun d19 => Z.ok (D.tup [(D.str "kept"), d19])) ((List.range (t.length - k)).map fun j => D.int ((k + j : Nat) : Int)) = .ok ((keptL k t.length).map orD) := by
        rw [mapZ_pure _ (fun d => D.tup [.str "kept", d]) (by simp; omega), map_kept]
      dsimp only
      rw [len_tx, bind_ok', it_rng2 (by omega) (by omega), bind_ok', m1, bind_ok', ext_ok (by omega), bind_ok', tupl_l, bind_ok', zw_ok, ha]
/-- the result -/
def resG (t : Tx) : Nat → List Ed → Tx
  | k, [] => t.drop k
  | k, e :: es => (t.drop k).take (e.p - k) ++ e.i ++ resG t e.e es
def orV (t : Tx) (es : List Ed) : Or → Str
  | .kept j => t[j]?.getD ""
  | .ins e k => (es[e]?.bind fun e => e.i[k]?).getD ""
theorem take_get {t : Tx} {a b : Nat} (h : b ≤ t.length) (f : Nat → Str) (hf : ∀ j, j < t.length → f j = t[j]?.getD "") : (List.range (b - a)).map (fun k => f (a + k)) = (t.drop a).take (b - a) := by
  apply List.ext_getElem?
  intro i
  rw [List.getElem?_map, List.getElem?_take, List.getElem?_drop]
  by_cases hi : i < b - a
  · rw [List.getElem?_range hi, if_pos hi, List.getElem?_eq_getElem (by omega : a + i < t.length)]
    simp only [Option.map_some]
    rw [hf _ (by omega), List.getElem?_eq_getElem (by omega : a + i < t.length)]
    rfl
  · rw [if_neg hi, List.getElem?_eq_none (by simp; omega)]
    rfl
theorem inOrd_tail {e : Ed} {es : List Ed} (h : inOrd (e :: es) = true) : inOrd es = true := by
  cases es with
  | nil => rfl
  | cons b r => rw [inOrd, Bool.and_eq_true] at h; exact h.2
theorem inOrd_head {e f : Ed} {es : List Ed} (h : inOrd (e :: f :: es) = true) : e.e ≤ f.p := by
  rw [inOrd, Bool.and_eq_true] at h
  exact of_decide_eq_true h.1
theorem fits_len {t : Tx} {e : Ed} (h : fits t e = true) : e.e ≤ t.length := by
  unfold fits at h
  rw [Bool.and_eq_true] at h
  exact of_decide_eq_true h.1
theorem orV_res (t : Tx) (es : List Ed) : ∀ (es' : List Ed) (k n : Nat), es.drop n = es' → (∀ e ∈ es', fits t e = true) → (orgs t.length k n es').map (orV t es) = resG t k es'
  | [], k, n, hd, hf => by
    simp only [orgs, keptL, resG, List.map_map]
    have := take_get (t := t) (a := k) (b := t.length) (Nat.le_refl _) (fun j => orV t es (.kept j)) (fun j _ => rfl)
    rw [← List.length_drop, List.take_length] at this
    rw [← List.length_drop]
    exact this
  | e :: es', k, n, hd, hf => by
    have hn : es[n]? = some e := by
      rw [← List.head?_drop, hd]
      rfl
    have ih := orV_res t es es' e.e (n + 1) (by rw [← List.drop_drop, hd]; rfl) fun e he => hf e (List.mem_cons_of_mem _ he)
    have h1 := fits_len (hf e (List.mem_cons_self ..))
    simp only [orgs, resG, List.map_append, ih]
    congr 1
    congr 1
    · unfold keptL
      rw [List.map_map]
      exact take_get (t := t) (a := k) (b := e.p) (by unfold Ed.e at h1; omega) (fun j => orV t es (.kept j)) (fun j _ => rfl)
    · unfold insL
      rw [List.map_map]
      apply List.ext_getElem?
      intro i
      rw [List.getElem?_map]
      by_cases hi : i < e.i.length
      · rw [List.getElem?_range hi, List.getElem?_eq_getElem hi]
        simp [orV, hn, hi]
      · rw [List.getElem?_eq_none (by simp; omega), List.getElem?_eq_none (by omega)]
        rfl
theorem orgs_mem (t : Tx) (es : List Ed) : ∀ (es' : List Ed) (k n : Nat), es.drop n = es' → (∀ e ∈ es', fits t e = true) → ∀ o ∈ orgs t.length k n es', match o with
    | .kept j => j < t.length
    | .ins a b => ∃ e, es[a]? = some e ∧ b < e.i.length
  | [], k, n, hd, hf, o, ho => by
    simp only [orgs, keptL, List.mem_map, List.mem_range] at ho
    obtain ⟨a, h1, rfl⟩ := ho
    show k + a < t.length
    omega
  | e :: es', k, n, hd, hf, o, ho => by
    have hn : es[n]? = some e := by
      rw [← List.head?_drop, hd]
      rfl
    have h1 := fits_len (hf e (List.mem_cons_self ..))
    simp only [orgs, List.mem_append] at ho
    rcases ho with (ho | ho) | ho
    · simp only [keptL, List.mem_map, List.mem_range] at ho
      obtain ⟨a, h2, rfl⟩ := ho
      show k + a < t.length
      unfold Ed.e at h1
      omega
    · simp only [insL, List.mem_map, List.mem_range] at ho
      obtain ⟨a, h2, rfl⟩ := ho
      exact ⟨e, hn, h2⟩
    · exact orgs_mem t es es' e.e (n + 1) (by rw [← List.drop_drop, hd]; rfl) (fun e he => hf e (List.mem_cons_of_mem _ he)) o ho
theorem tx_at {t : Tx} {k : Nat} {s : Str} (h : t[k]? = some s) : z2 .ix (tx t) (.int k) = .ok (.str s) := ix_t (by rw [List.getElem?_map, h]; rfl)
theorem line_from_ok (t : Tx) (es : List Ed) (o : Or) (h : match o with
    | .kept j => j < t.length
    | .ins a b => ∃ e, es[a]? = some e ∧ b < e.i.length) : f_line_from (tx t) (eds es) (orD o) = .ok (.str (orV t es o)) := by
  cases o with
  | kept j =>
    have h : j < t.length := h
    have e1 : z2 .ix (orD (.kept j)) (.int 0) = .ok (.str "kept") := rfl
    have e2 : z2 .ix (orD (.kept j)) (.int 1) = .ok (.int j) := rfl
    have e3 := tx_at (List.getElem?_eq_getElem h)
    unfold f_line_from
    simp -implicitDefEqProofs only [G.zw_ok, G.zw_no, G.zw_exc, G.bind_ok', G.nox_ok, G.add_i, G.sub_i, G.lt_i, G.le_i, G.gt_i, G.ge_i, G.eq_i, G.ne_i, G.eq_s, G.ne_s, G.eq_b, G.ne_b, G.max_i, G.min_i, G.len_t, G.len_l, G.tr_b, G.tr_i, G.tr_n, G.tr_t, G.tr_l, G.isN_n, G.isN_t, G.isN_l, G.isN_i, G.isN_s, G.isN_b, G.noN_n, G.noN_t, G.noN_l, G.noN_i, G.noN_s, G.noN_b, G.tupl_l, G.tupl_t, G.list_t, G.list_l, G.int_i, G.neg_i, G.abs_i, G.ite_b, G.and_b, G.or_b, G.not_b, G.part_i, G.un2, G.un3, G.fl_nx, G.fl_ret, G.slc_t, G.slc_l, G.it_seqT, G.it_seqL, G.it_revT, G.it_revL, G.it_enumT, G.it_enumL, G.it_zipT, G.it_zipL, G.cut_mid, G.cut_hi, G.cut_lo, G.cut_none, if_true, if_false, Bool.false_eq_true, Bool.not_true, Bool.not_false, reduceIte, decide_eq_true_eq, decide_true, decide_false, G.bind_id, e1, e2, e3]
    simp [orV, h]
  | ins a b =>
    obtain ⟨e, h1, h2⟩ := h
    have e1 : z2 .ix (orD (.ins a b)) (.int 0) = .ok (.str "inserted") := rfl
    have e2 : z2 .ix (orD (.ins a b)) (.int 1) = .ok (.int a) := rfl
    have e3 : z2 .ix (orD (.ins a b)) (.int 2) = .ok (.int b) := rfl
    have e4 := tx_at (List.getElem?_eq_getElem h2)
    have e5 : (decide (("inserted" : Str) = "kept")) = false := by decide
    unfold f_line_from
    simp -implicitDefEqProofs only [G.zw_ok, G.zw_no, G.zw_exc, G.bind_ok', G.nox_ok, G.add_i, G.sub_i, G.lt_i, G.le_i, G.gt_i, G.ge_i, G.eq_i, G.ne_i, G.eq_s, G.ne_s, G.eq_b, G.ne_b, G.max_i, G.min_i, G.len_t, G.len_l, G.tr_b, G.tr_i, G.tr_n, G.tr_t, G.tr_l, G.isN_n, G.isN_t, G.isN_l, G.isN_i, G.isN_s, G.isN_b, G.noN_n, G.noN_t, G.noN_l, G.noN_i, G.noN_s, G.noN_b, G.tupl_l, G.tupl_t, G.list_t, G.list_l, G.int_i, G.neg_i, G.abs_i, G.ite_b, G.and_b, G.or_b, G.not_b, G.part_i, G.un2, G.un3, G.fl_nx, G.fl_ret, G.slc_t, G.slc_l, G.it_seqT, G.it_seqL, G.it_revT, G.it_revL, G.it_enumT, G.it_enumL, G.it_zipT, G.it_zipL, G.cut_mid, G.cut_hi, G.cut_lo, G.cut_none, if_true, if_false, Bool.false_eq_true, Bool.not_true, Bool.not_false, reduceIte, decide_eq_true_eq, decide_true, decide_false, G.bind_id, e1, e2, e3, ed_at h1, ed_2, e4, e5]
    simp [orV, h1, h2]
theorem okE_iff {t : Tx} {es : List Ed} : okE t es = true ↔ inOrd es = true ∧ ∀ e ∈ es, fits t e = true := by
  unfold okE
  rw [Bool.and_eq_true, List.all_eq_true]
theorem apply_ok (t : Tx) (es : List Ed) (h : EsB es) (ht : t.length ≤ 1000) : f_apply_edits (tx t) (eds es) = .ok (if okE t es = true then tx (resG t 0 es) else .non) := by
  unfold f_apply_edits
  rw [origins_ok t es h ht, bind_ok']
  cases hk : okE t es with
  | false =>
    simp only [Bool.false_eq_true, if_false]
    simp -implicitDefEqProofs only [G.zw_ok, G.zw_no, G.zw_exc, G.bind_ok', G.nox_ok, G.add_i, G.sub_i, G.lt_i, G.le_i, G.gt_i, G.ge_i, G.eq_i, G.ne_i, G.eq_s, G.ne_s, G.eq_b, G.ne_b, G.max_i, G.min_i, G.len_t, G.len_l, G.tr_b, G.tr_i, G.tr_n, G.tr_t, G.tr_l, G.isN_n, G.isN_t, G.isN_l, G.isN_i, G.isN_s, G.isN_b, G.noN_n, G.noN_t, G.noN_l, G.noN_i, G.noN_s, G.noN_b, G.tupl_l, G.tupl_t, G.list_t, G.list_l, G.int_i, G.neg_i, G.abs_i, G.ite_b, G.and_b, G.or_b, G.not_b, G.part_i, G.un2, G.un3, G.fl_nx, G.fl_ret, G.slc_t, G.slc_l, G.it_seqT, G.it_seqL, G.it_revT, G.it_revL, G.it_enumT, G.it_enumL, G.it_zipT, G.it_zipL, G.cut_mid, G.cut_hi, G.cut_lo, G.cut_none, if_true, if_false, Bool.false_eq_true, Bool.not_true, Bool.not_false, reduceIte, decide_eq_true_eq, decide_true, decide_false, G.bind_id]
  | true =>
    obtain ⟨h1, h2⟩ := okE_iff.mp hk
    have hsz := orgs_sz (k := 0) (n := 0) h ht
    have hS : (2001000 : Nat) ≤ SZ := by decide
    simp only [if_true]
    simp -implicitDefEqProofs only [G.zw_ok, G.zw_no, G.zw_exc, G.bind_ok', G.nox_ok, G.add_i, G.sub_i, G.lt_i, G.le_i, G.gt_i, G.ge_i, G.eq_i, G.ne_i, G.eq_s, G.ne_s, G.eq_b, G.ne_b, G.max_i, G.min_i, G.len_t, G.len_l, G.tr_b, G.tr_i, G.tr_n, G.tr_t, G.tr_l, G.isN_n, G.isN_t, G.isN_l, G.isN_i, G.isN_s, G.isN_b, G.noN_n, G.noN_t, G.noN_l, G.noN_i, G.noN_s, G.noN_b, G.tupl_l, G.tupl_t, G.list_t, G.list_l, G.int_i, G.neg_i, G.abs_i, G.ite_b, G.and_b, G.or_b, G.not_b, G.part_i, G.un2, G.un3, G.fl_nx, G.fl_ret, G.slc_t, G.slc_l, G.it_seqT, G.it_seqL, G.it_revT, G.it_revL, G.it_enumT, G.it_enumL, G.it_zipT, G.it_zipL, G.cut_mid, G.cut_hi, G.cut_lo, G.cut_none, if_true, if_false, Bool.false_eq_true, Bool.not_true, Bool.not_false, reduceIte, decide_eq_true_eq, decide_true, decide_false, G.bind_id]
    rw [map_eq orD (fun o => .str (orV t es o)) (by omega) (by
      intro o ho
      rw [line_from_ok t es o (orgs_mem t es es 0 0 rfl h2 o ho)])]
    simp -implicitDefEqProofs only [G.zw_ok, G.zw_no, G.zw_exc, G.bind_ok', G.nox_ok, G.add_i, G.sub_i, G.lt_i, G.le_i, G.gt_i, G.ge_i, G.eq_i, G.ne_i, G.eq_s, G.ne_s, G.eq_b, G.ne_b, G.max_i, G.min_i, G.len_t, G.len_l, G.tr_b, G.tr_i, G.tr_n, G.tr_t, G.tr_l, G.isN_n, G.isN_t, G.isN_l, G.isN_i, G.isN_s, G.isN_b, G.noN_n, G.noN_t, G.noN_l, G.noN_i, G.noN_s, G.noN_b, G.tupl_l, G.tupl_t, G.list_t, G.list_l, G.int_i, G.neg_i, G.abs_i, G.ite_b, G.and_b, G.or_b, G.not_b, G.part_i, G.un2, G.un3, G.fl_nx, G.fl_ret, G.slc_t, G.slc_l, G.it_seqT, G.it_seqL, G.it_revT, G.it_revL, G.it_enumT, G.it_enumL, G.it_zipT, G.it_zipL, G.cut_mid, G.cut_hi, G.cut_lo, G.cut_none, if_true, if_false, Bool.false_eq_true, Bool.not_true, Bool.not_false, reduceIte, decide_eq_true_eq, decide_true, decide_false, G.bind_id]
    rw [← orV_res t es es 0 0 rfl h2, tx, List.map_map]
    rfl
end G
namespace G
open PySem L2
/-- one edit performed -/
def perf (t : Tx) (e : Ed) : Tx := t.take e.p ++ e.i ++ t.drop e.e
def appl (t : Tx) : List Ed → Tx
  | [] => t
  | e :: es => perf (appl t es) e
theorem appl_res (t : Tx) : ∀ (es : List Ed), inOrd es = true → (∀ e ∈ es, fits t e = true) → ∀ k, k ≤ t.length → (∀ e, es.head? = some e → k ≤ e.p) → (appl t es).drop k = resG t k es ∧ (appl t es).take k = t.take k ∧ k ≤ (appl t es).length
  | [], _, _, k, hk, _ => ⟨rfl, rfl, hk⟩
  | e :: es, h1, h2, k, hk, h3 => by
    have hf := fits_len (h2 e (List.mem_cons_self ..))
    have hk2 : k ≤ e.p := h3 e rfl
    have hpe : e.p ≤ e.e := by unfold Ed.e; omega
    have hd : ∀ f, es.head? = some f → e.e ≤ f.p := by
      intro f hf
      cases es with
      | nil => cases hf
      | cons g r => cases hf; exact inOrd_head h1
    obtain ⟨i1, i2, i3⟩ := appl_res t es (inOrd_tail h1) (fun e he => h2 e (List.mem_cons_of_mem _ he)) e.e hf hd
    have i4 : (appl t es).take e.p = t.take e.p := by
      have := congrArg (List.take e.p) i2
      rwa [List.take_take, List.take_take, Nat.min_eq_left hpe] at this
    have hl : (appl t (e :: es)).take k = t.take k := by
      show (perf (appl t es) e).take k = _
      unfold perf
      rw [i4, List.append_assoc, List.take_append_of_le_length (by simp; omega), List.take_take, Nat.min_eq_left hk2]
    refine ⟨?_, hl, ?_⟩
    · show (perf (appl t es) e).drop k = _
      unfold perf
      rw [i4, i1, List.append_assoc, List.drop_append_of_le_length (by simp; omega), List.drop_take, resG, List.append_assoc]
    · show k ≤ (perf (appl t es) e).length
      unfold perf
      rw [i4]
      simp
      omega
theorem appl_is {t : Tx} {es : List Ed} (h : okE t es = true) : appl t es = resG t 0 es := by
  obtain ⟨h1, h2⟩ := okE_iff.mp h
  have := (appl_res t es h1 h2 0 (by omega) (fun _ _ => by omega)).1
  simpa using this
theorem appl_len {t : Tx} {es : List Ed} (h : EsB es) (ht : t.length ≤ 1000) (hm : ∀ B, B ⊆ es → True) : ∀ n, n ≤ es.length → (appl t (es.drop (es.length - n))).length ≤ 1000 + 1000 * n
  | 0, _ => by simp [appl]; omega
  | n + 1, hn => by
    have ih := appl_len h ht hm n (by omega)
    have hi : es.length - (n + 1) < es.length := by omega
    rw [List.drop_eq_getElem_cons hi]
    have h1 : es.length - (n + 1) + 1 = es.length - n := by omega
    rw [h1]
    have hb := (h.2 _ (List.getElem_mem hi)).2.2
    simp only [appl, perf, List.length_append, List.length_take, List.length_drop]
    unfold Ed.e
    omega
theorem perf_step (t : Tx) (e : Ed) (h : t.length + e.i.length ≤ 5000000) : (z2 .ix (ed e) (D.int 0)).bind (fun r15 => zpart r15 fun i16 => (zslc (tx t) none (some i16)).bind fun r17 => (z2 .ix (ed e) (D.int 2)).bind fun r18 => (z2 .add r17 r18).bind fun r19 => (f_law_end (ed e)).bind fun r20 => zpart r20 fun i21 => (zslc (tx t) (some i21) none).bind fun r22 => (z2 .add r19 r22).bind fun r23 => .ok r23) = .ok (tx (perf t e)) := by
  have hS : (16000000 : Nat) ≤ SZ := by decide
  have h1 : (t.take e.p).length + e.i.length ≤ SZ := by simp; omega
  have h2 : (t.take e.p ++ e.i).length + (t.drop e.e).length ≤ SZ := by simp; omega
  simp -implicitDefEqProofs only [G.zw_ok, G.zw_no, G.zw_exc, G.bind_ok', G.nox_ok, G.add_i, G.sub_i, G.lt_i, G.le_i, G.gt_i, G.ge_i, G.eq_i, G.ne_i, G.eq_s, G.ne_s, G.eq_b, G.ne_b, G.max_i, G.min_i, G.len_t, G.len_l, G.tr_b, G.tr_i, G.tr_n, G.tr_t, G.tr_l, G.isN_n, G.isN_t, G.isN_l, G.isN_i, G.isN_s, G.isN_b, G.noN_n, G.noN_t, G.noN_l, G.noN_i, G.noN_s, G.noN_b, G.tupl_l, G.tupl_t, G.list_t, G.list_l, G.int_i, G.neg_i, G.abs_i, G.ite_b, G.and_b, G.or_b, G.not_b, G.part_i, G.un2, G.un3, G.fl_nx, G.fl_ret, G.slc_t, G.slc_l, G.it_seqT, G.it_seqL, G.it_revT, G.it_revL, G.it_enumT, G.it_enumL, G.it_zipT, G.it_zipL, G.cut_mid, G.cut_hi, G.cut_lo, G.cut_none, if_true, if_false, Bool.false_eq_true, Bool.not_true, Bool.not_false, reduceIte, decide_eq_true_eq, decide_true, decide_false, G.bind_id, ed_0, slc_txH, ed_2, add_tx h1, law_end_ok, slc_txL, add_tx h2]
  rfl
theorem law_applied_ok (t : Tx) (es : List Ed) (h : EsB es) (ht : t.length ≤ 1000) : f_law_applied (tx t) (eds es) = .ok (if okE t es = true then tx (resG t 0 es) else .non) := by
  unfold f_law_applied
  have hl : es.length ≤ SZ := Nat.le_trans h.1 (by decide)
  have e1 : (itD .seq [eds es]) = .ok (es.map ed) := rfl
  have e2 : (itD .rev [eds es]) = .ok (es.reverse.map ed) := by unfold eds; rw [it_revT, List.map_reverse]
  rw [law_ordered_ok es hl, bind_ok', tr_b, bind_ok', not_b, bind_ok', ite_b]
  cases ho : inOrd es with
  | false =>
    have : okE t es = false := by unfold okE; rw [ho]; rfl
    rw [this]
    rfl
  | true =>
    simp only [Bool.not_true, Bool.false_eq_true, if_false]
    rw [e1, bind_ok', for_all ed (fits t) D.non (by
      intro y _
      rw [law_fits_ok, bind_ok', tr_b, bind_ok', not_b, bind_ok', ite_b]
      cases fits t y <;> rfl)]
    have e3 : okE t es = es.all (fits t) := by unfold okE; rw [ho]; rfl
    rw [e3]
    cases ha : es.all (fits t) with
    | false => rfl
    | true =>
      have hok : okE t es = true := by rw [e3, ha]
      simp only [if_true]
      rw [bind_ok', fl_nx, e2, bind_ok']
      have := fold_eq (f := fun d13 (s11 : D) =>
        (z2 .ix d13 (D.int 0)).bind fun r15 => zpart r15 fun i16 => (zslc s11 none (some i16)).bind fun r17 => (z2 .ix d13 (D.int 2)).bind fun r18 => (z2 .add r17 r18).bind fun r19 => (f_law_end d13).bind fun r20 => zpart r20 fun i21 => (zslc s11 (some i21) none).bind fun r22 => (z2 .add r19 r22).bind fun r23 => .ok r23)
        ed (fun s _ => s) (fun _ => True) (ys := []) (s := tx t) trivial (fun y hy => by cases hy)
      suffices hh : ∀ (n : Nat), n ≤ es.length → foldZ (fun d13 (s11 : D) =>
        (z2 .ix d13 (D.int 0)).bind fun r15 => zpart r15 fun i16 => (zslc s11 none (some i16)).bind fun r17 => (z2 .ix d13 (D.int 2)).bind fun r18 => (z2 .add r17 r18).bind fun r19 => (f_law_end d13).bind fun r20 => zpart r20 fun i21 => (zslc s11 (some i21) none).bind fun r22 => (z2 .add r19 r22).bind fun r23 => .ok r23) ((es.drop (es.length - n)).reverse.map ed) (tx t) = .ok (tx (appl t (es.drop (es.length - n)))) by
        have h0 := hh es.length (Nat.le_refl _)
        rw [Nat.sub_self, List.drop_zero] at h0
        rw [h0, bind_ok', appl_is hok]
      intro n
      induction n with
      | zero =>
        intro _
        rw [Nat.sub_zero, List.drop_length]
        rfl
      | succ n ih =>
        intro hn
        have hi : es.length - (n + 1) < es.length := by omega
        have h1 : es.length - (n + 1) + 1 = es.length - n := by omega
        rw [List.drop_eq_getElem_cons hi, h1, List.reverse_cons, List.map_append]
        have fa : ∀ (f : D → D → Z D) (xs ys : List D) (s : D), foldZ f (xs ++ ys) s = (foldZ f xs s).bind fun s => foldZ f ys s := by
          intro f xs
          induction xs with
          | nil => intro ys s; rfl
          | cons x xs ih =>
            intro ys s
            simp only [List.cons_append, foldZ]
            cases f x s with
            | ok s' => exact ih ys s'
            | exc c as => rfl
            | no => rfl
        rw [fa, ih (by omega), bind_ok']
        have hb := (h.2 _ (List.getElem_mem hi)).2.2
        have hlen := appl_len h ht (fun _ _ => trivial) n (by omega)
        have hn2 := h.1
        simp only [List.map_cons, List.map_nil, foldZ]
        rw [perf_step _ _ (by omega)]
        rfl
end G
namespace G
open PySem L2
/-! ### what the law draws: menus, texts, edits -/
theorem enc_of {β : Type} {enc : β → D} {P : β → Prop} : ∀ {ds : List D}, (∀ d ∈ ds, ∃ b, d = enc b ∧ P b) → ∃ bs : List β, ds = bs.map enc ∧ ∀ b ∈ bs, P b
  | [], _ => ⟨[], rfl, by simp⟩
  | d :: ds, h => by
    obtain ⟨b, rfl, hb⟩ := h d (List.mem_cons_self ..)
    obtain ⟨bs, rfl, h2⟩ := enc_of (ds := ds) fun d hd => h d (List.mem_cons_of_mem _ hd)
    exact ⟨b :: bs, rfl, fun x hx => (List.mem_cons.mp hx).elim (fun e => e ▸ hb) (h2 x)⟩
theorem zpick {α : Type} {Q : α → Prop} {f : D → Z α} {xs : List D} {v : Nat} (ns : List Int) (hx : xs = ns.map .int) (hv : v < ns.length) (k : ∀ n ∈ ns, Zw (f (.int n)) Q) : Zw ((z2 .ix (.lst xs) (.int v)).bind f) Q := by
  subst hx
  rw [ix_l (d := .int ns[v]) (by simp [hv]), bind_ok']
  exact k _ (List.getElem_mem hv)
theorem ix_str {z : Str} {k : Nat} (h : k < z.cps.toList.length) (hl : z.length ≤ SZ) : ∃ s : Str, z2 .ix (.str z) (.int k) = .ok (.str s) ∧ s.length = 1 := by
  refine ⟨⟨#[z.cps.toList[k]]⟩, ?_, rfl⟩
  unfold z2 p2 pIx atI
  dsimp only
  rw [if_pos hl, ixN_nat h]
  simp only [Option.bind_some, List.getElem?_eq_getElem h, Option.map_some, zval]
abbrev signs : Str := " !\"#$&'()*+,-./0123456789:;<=>?@ABCDEFGHIJKLMNOPQRSTUVWXYZ[\\]^_`abcdefghijklmnopqrstuvwxyz{|}~"
theorem signs_len : signs.length = 94 := by decide +kernel
theorem signs_list : signs.cps.toList.length = 94 := by decide +kernel
theorem len_signs : z1 .len (.str signs) = .ok (.int 94) := by
  rw [len_s (by rw [signs_len]; decide), signs_len]
  rfl
theorem ix_signs {v : Nat} (h : (v : Int) < 94) : ∃ s : Str, z2 .ix (.str signs) (.int v) = .ok (.str s) ∧ s.length = 1 := ix_str (by rw [signs_list]; omega) (by rw [signs_len]; decide)
def MenuOk (ms : List D) : Prop := ∃ ls : Tx, ms = ls.map .str ∧ 1 ≤ ls.length ∧ ls.length ≤ 12
theorem app_len (a b : Str) : (a ++ b).length = a.length + b.length := by
  show (a.cps ++ b.cps).size = _
  rw [Array.size_append]
  rfl
theorem menu_ok {t : List D} (ht : Tp t) : Zw (f_law_menu t) fun r => MenuOk r.1 ∧ Tp r.2 := by
  unfold f_law_menu
  refine zd ht (by decide) (by decide) fun v t ht0 ht => ?_
  simp -implicitDefEqProofs only [G.zw_ok, G.zw_no, G.zw_exc, G.bind_ok', G.nox_ok, G.add_i, G.sub_i, G.lt_i, G.le_i, G.gt_i, G.ge_i, G.eq_i, G.ne_i, G.eq_s, G.ne_s, G.eq_b, G.ne_b, G.max_i, G.min_i, G.len_t, G.len_l, G.tr_b, G.tr_i, G.tr_n, G.tr_t, G.tr_l, G.isN_n, G.isN_t, G.isN_l, G.isN_i, G.isN_s, G.isN_b, G.noN_n, G.noN_t, G.noN_l, G.noN_i, G.noN_s, G.noN_b, G.tupl_l, G.tupl_t, G.list_t, G.list_l, G.int_i, G.neg_i, G.abs_i, G.ite_b, G.and_b, G.or_b, G.not_b, G.part_i, G.un2, G.un3, G.fl_nx, G.fl_ret, G.slc_t, G.slc_l, G.it_seqT, G.it_seqL, G.it_revT, G.it_revL, G.it_enumT, G.it_enumL, G.it_zipT, G.it_zipL, G.cut_mid, G.cut_hi, G.cut_lo, G.cut_none, if_true, if_false, Bool.false_eq_true, Bool.not_true, Bool.not_false, reduceIte, decide_eq_true_eq, decide_true, decide_false, G.bind_id]
  split
  · refine zd ht (by decide) (by decide) fun w t hw ht => ?_
    have h3 : ((3 : Int) + (w : Int)) = ((3 + w : Nat) : Int) := by omega
    simp -implicitDefEqProofs only [G.zw_ok, G.zw_no, G.zw_exc, G.bind_ok', G.nox_ok, G.add_i, G.sub_i, G.lt_i, G.le_i, G.gt_i, G.ge_i, G.eq_i, G.ne_i, G.eq_s, G.ne_s, G.eq_b, G.ne_b, G.max_i, G.min_i, G.len_t, G.len_l, G.tr_b, G.tr_i, G.tr_n, G.tr_t, G.tr_l, G.isN_n, G.isN_t, G.isN_l, G.isN_i, G.isN_s, G.isN_b, G.noN_n, G.noN_t, G.noN_l, G.noN_i, G.noN_s, G.noN_b, G.tupl_l, G.tupl_t, G.list_t, G.list_l, G.int_i, G.neg_i, G.abs_i, G.ite_b, G.and_b, G.or_b, G.not_b, G.part_i, G.un2, G.un3, G.fl_nx, G.fl_ret, G.slc_t, G.slc_l, G.it_seqT, G.it_seqL, G.it_revT, G.it_revL, G.it_enumT, G.it_enumL, G.it_zipT, G.it_zipL, G.cut_mid, G.cut_hi, G.cut_lo, G.cut_none, if_true, if_false, Bool.false_eq_true, Bool.not_true, Bool.not_false, reduceIte, decide_eq_true_eq, decide_true, decide_false, G.bind_id, h3]
    refine ⟨⟨(["keep", "remove", "insert", "kept", "inserted", ""] : Tx).take (3 + w), ?_, ?_, ?_⟩, ht⟩
    · rw [List.map_take]; rfl
    · simp; omega
    · simp; omega
  · refine zd ht (by decide) (by decide) fun w t hw ht => ?_
    have hst : ∃ s : Str, z2 .ix (.lst [(D.str ""), (D.str ""), (D.str "section 12, part (b")]) (.int w) = .ok (.str s) ∧ s.length ≤ 20 := by
      have : w = 0 ∨ w = 1 ∨ w = 2 := by omega
      rcases this with rfl | rfl | rfl
      · exact ⟨"", ix_l (k := 0) rfl, by decide +kernel⟩
      · exact ⟨"", ix_l (k := 1) rfl, by decide +kernel⟩
      · exact ⟨"section 12, part (b", ix_l (k := 2) rfl, by decide +kernel⟩
    obtain ⟨stem, e1, hstem⟩ := hst
    refine ze e1 ?_
    refine zd ht (by decide) (by decide) fun u t hu ht => ?_
    refine zpick [2, 2, 3, 3, 4, 5, 5, 12] rfl (by simp; omega) fun n hn => ?_
    have hn2 : 1 ≤ n ∧ n ≤ 12 := by simp at hn; omega
    rw [it_rng (by omega) (by omega), bind_ok']
    refine zc (P := fun s : List D × List D => Tp s.1 ∧ ∃ ls : Tx, s.2 = ls.map .str ∧ ls.length = n.toNat) ?_ ?_
    · refine zw_fold (fun r s => Tp s.1 ∧ ∃ ls : Tx, s.2 = ls.map .str ∧ ls.length + r.length = n.toNat) ⟨ht, [], rfl, by simp⟩ ?_ ?_
      · rintro d ds ⟨t, l⟩ ⟨ht, ls, h1, h2⟩
        dsimp only at ht h1 h2 ⊢
        subst h1
        rw [show (D.str " !\"#$&'()*+,-./0123456789:;<=>?@ABCDEFGHIJKLMNOPQRSTUVWXYZ[\\]^_`abcdefghijklmnopqrstuvwxyz{|}~") = D.str signs from rfl, len_signs, bind_ok']
        refine zd ht (by decide) (by decide) fun a t ha ht => ?_
        obtain ⟨s, e2, hs⟩ := ix_signs ha
        refine ze e2 ?_
        rw [add_s (by have : (100 : Nat) ≤ SZ := by decide
                      omega), bind_ok', eq_s, bind_ok', ite_b]
        refine zc (P := fun q : List D × D => Tp q.1 ∧ ∃ s : Str, q.2 = .str s) ?_ ?_
        · split
          · refine zd ht (by decide) (by decide) fun b t hb ht => ?_
            refine zd ht (by decide) (by decide) fun c t hc ht => ?_
            refine zpick [0, 0, 0, 1, 19, b] rfl (by simp; omega) fun m hm => ?_
            have hm2 : 0 ≤ m ∧ m ≤ 20 := by simp at hm; omega
            rw [it_rng (by omega) (by omega), bind_ok']
            refine zc (P := fun q : List D × D => Tp q.1 ∧ ∃ s : Str, q.2 = .str s) ?_ ?_
            · refine zw_fold (fun r q => Tp q.1 ∧ ∃ s : Str, q.2 = .str s ∧ s.length + r.length ≤ 100) ⟨ht, _, rfl, ?_⟩ ?_ ?_
              · rw [app_len]; simp; omega
              · rintro d ds ⟨t, q⟩ ⟨ht, s2, h1, h2⟩
                dsimp only at ht h1 h2 ⊢
                subst h1
                rw [bind_ok']
                refine zd ht (by decide) (by decide) fun a t ha ht => ?_
                obtain ⟨s3, e3, hs3⟩ := ix_signs ha
                refine ze e3 ?_
                simp at h2
                rw [add_s (by have : (200 : Nat) ≤ SZ := by decide
                              omega), bind_ok', zw_ok]
                exact ⟨ht, _, rfl, by rw [app_len]; omega⟩
              · rintro ⟨t, q⟩ ⟨ht, s2, h1, h2⟩
                exact ⟨ht, s2, h1⟩
            · rintro ⟨t, q⟩ ⟨ht, s2, h1⟩
              exact zw_ok.mpr ⟨ht, s2, h1⟩
          · exact zw_ok.mpr ⟨ht, _, rfl⟩
        · rintro ⟨t, q⟩ ⟨ht, s2, h1⟩
          dsimp only at h1 ht ⊢
          subst h1
          simp at h2
          rw [app_ok (by have : (100 : Nat) ≤ SZ := by decide
                         simp; omega), bind_ok', zw_ok]
          exact ⟨ht, ls ++ [s2], by simp, by simp; omega⟩
      · rintro ⟨t, l⟩ ⟨ht, ls, h1, h2⟩
        exact ⟨ht, ls, h1, by simpa using h2⟩
    · rintro ⟨t, l⟩ ⟨ht, ls, h1, h2⟩
      dsimp only at h1 ht ⊢
      subst h1
      refine zd ht (by decide) (by decide) fun a t ha ht => ?_
      simp -implicitDefEqProofs only [G.zw_ok, G.zw_no, G.zw_exc, G.bind_ok', G.nox_ok, G.add_i, G.sub_i, G.lt_i, G.le_i, G.gt_i, G.ge_i, G.eq_i, G.ne_i, G.eq_s, G.ne_s, G.eq_b, G.ne_b, G.max_i, G.min_i, G.len_t, G.len_l, G.tr_b, G.tr_i, G.tr_n, G.tr_t, G.tr_l, G.isN_n, G.isN_t, G.isN_l, G.isN_i, G.isN_s, G.isN_b, G.noN_n, G.noN_t, G.noN_l, G.noN_i, G.noN_s, G.noN_b, G.tupl_l, G.tupl_t, G.list_t, G.list_l, G.int_i, G.neg_i, G.abs_i, G.ite_b, G.and_b, G.or_b, G.not_b, G.part_i, G.un2, G.un3, G.fl_nx, G.fl_ret, G.slc_t, G.slc_l, G.it_seqT, G.it_seqL, G.it_revT, G.it_revL, G.it_enumT, G.it_enumL, G.it_zipT, G.it_zipL, G.cut_mid, G.cut_hi, G.cut_lo, G.cut_none, if_true, if_false, Bool.false_eq_true, Bool.not_true, Bool.not_false, reduceIte, decide_eq_true_eq, decide_true, decide_false, G.bind_id]
      have hl0 : 0 < (ls.map D.str).length := by simp; omega
      have e5 : zst (ls.map D.str) (.int 0) (.str "") = .ok ((ls.set 0 "").map D.str) := by
        rw [List.map_set]
        exact st_ok (k := 0) hl0
      rw [e5]
      split
      · rw [bind_ok', zw_ok]
        exact ⟨⟨_, rfl, by simp; omega, by simp; omega⟩, ht⟩
      · rw [bind_ok', zw_ok]
        exact ⟨⟨_, rfl, by omega, by omega⟩, ht⟩
theorem menu_pick {α : Type} {Q : α → Prop} {t ms : List D} {f : D → List D → Z α} (ht : Tp t) (hm : MenuOk ms) (k : ∀ (s : Str) t', Tp t' → Zw (f (.str s) t') Q) : Zw ((z1 .len (.lst ms)).bind fun r => (Z.nox (f_law_draw t r)).bind fun p => (z2 .ix (.lst ms) p.1).bind fun x => f x p.2) Q := by
  obtain ⟨ls, rfl, h1, h2⟩ := hm
  rw [len_l, bind_ok', List.length_map]
  refine zd ht (by omega) (by omega) fun v t hv ht => ?_
  have hv' : v < ls.length := by omega
  dsimp only
  rw [ix_l (d := .str ls[v]) (by simp [hv']), bind_ok']
  exact k _ _ ht
theorem lines_ok {t ms : List D} (ht : Tp t) (hm : MenuOk ms) {most : Int} (h0 : 0 ≤ most) (h1 : most ≤ 1000) : Zw (f_law_lines t (.lst ms) (.int most)) fun r => ∃ x : Tx, r.1 = tx x ∧ (x.length : Int) ≤ most ∧ Tp r.2 := by
  unfold f_law_lines
  rw [add_i, bind_ok']
  refine zd ht (by omega) (by omega) fun v t hv ht => ?_
  have hS : (2000 : Nat) ≤ SZ := by decide
  dsimp only
  rw [it_rngN (by omega), bind_ok']
  refine zc (zw_mapS_all (fun d => ∃ s : Str, d = .str s ∧ True) Tp (by simp; omega) ht ?_) ?_
  · intro d hd t ht
    exact menu_pick (f := fun x t => .ok (x, t)) ht hm fun s t' ht' => zw_ok.mpr ⟨⟨s, rfl, trivial⟩, ht'⟩
  · rintro ⟨ys, t⟩ ⟨hl, hy, ht⟩
    obtain ⟨x, rfl, _⟩ := enc_of hy
    simp -implicitDefEqProofs only [G.zw_ok, G.zw_no, G.zw_exc, G.bind_ok', G.nox_ok, G.add_i, G.sub_i, G.lt_i, G.le_i, G.gt_i, G.ge_i, G.eq_i, G.ne_i, G.eq_s, G.ne_s, G.eq_b, G.ne_b, G.max_i, G.min_i, G.len_t, G.len_l, G.tr_b, G.tr_i, G.tr_n, G.tr_t, G.tr_l, G.isN_n, G.isN_t, G.isN_l, G.isN_i, G.isN_s, G.isN_b, G.noN_n, G.noN_t, G.noN_l, G.noN_i, G.noN_s, G.noN_b, G.tupl_l, G.tupl_t, G.list_t, G.list_l, G.int_i, G.neg_i, G.abs_i, G.ite_b, G.and_b, G.or_b, G.not_b, G.part_i, G.un2, G.un3, G.fl_nx, G.fl_ret, G.slc_t, G.slc_l, G.it_seqT, G.it_seqL, G.it_revT, G.it_revL, G.it_enumT, G.it_enumL, G.it_zipT, G.it_zipL, G.cut_mid, G.cut_hi, G.cut_lo, G.cut_none, if_true, if_false, Bool.false_eq_true, Bool.not_true, Bool.not_false, reduceIte, decide_eq_true_eq, decide_true, decide_false, G.bind_id]
    simp at hl
    exact ⟨x, rfl, by omega, ht⟩
theorem row_ok {t ms : List D} (ht : Tp t) (hm : MenuOk ms) : Zw (f_law_row t (.lst ms)) fun r => ∃ x : Tx, r.1 = tx x ∧ x.length ≤ 36 ∧ Tp r.2 := by
  unfold f_law_row
  refine zd ht (by decide) (by decide) fun v t hv ht => ?_
  refine zpick [4, 12, 12, 36] rfl (by simp; omega) fun n hn => ?_
  have hn2 : 0 ≤ n ∧ n ≤ 36 := by simp at hn; omega
  refine zcn (lines_ok ht hm (by omega) (by omega)) fun r hr => ?_
  obtain ⟨x, e, hx, ht⟩ := hr
  exact zw_ok.mpr ⟨x, e, by omega, ht⟩
/-! edits -/
def EdB (e : Ed) : Prop := e.p ≤ 100 ∧ e.r.length ≤ 100 ∧ e.i.length ≤ 100
def Eds (n : Nat) (d : D) : Prop := ∃ es : List Ed, d = eds es ∧ es.length ≤ n ∧ ∀ e ∈ es, EdB e
theorem ed_mk {p : Nat} {r i : Tx} : D.tup [.int (p : Nat), tx r, tx i] = ed ⟨p, r, i⟩ := rfl
theorem fit_edits_ok {t ms : List D} {x : Tx} (ht : Tp t) (hm : MenuOk ms) (hx : x.length ≤ 100) : Zw (f_law_fit_edits t (.lst ms) (tx x) (.int 8) (.int 48)) fun r => Eds 8 r.1 ∧ Tp r.2 := by
  unfold f_law_fit_edits
  rw [add_i, bind_ok']
  refine zd ht (by decide) (by decide) fun v t hv ht => ?_
  have hS : (2000 : Nat) ≤ SZ := by decide
  dsimp only
  rw [it_rngN (by omega), bind_ok']
  refine zc (P := fun c : Fz (List D × D × List D × D) (D × List D) => ∃ s : List D × D × List D × D, c = .nx s ∧ Tp s.1 ∧ Eds 8 (.tup s.2.2.1)) ?_ ?_
  · refine zw_for (fun r s => ∃ (room a : Nat) (es : List Ed), Tp s.1 ∧ s.2 = (.int room, es.map ed, .int a) ∧ room ≤ 48 ∧ a ≤ x.length ∧ es.length + r.length ≤ 8 ∧ ∀ e ∈ es, EdB e) ⟨48, 0, [], ht, rfl, by omega, by omega, by simp; omega, by simp⟩ ?_ ?_
    · rintro d ds ⟨t, s⟩ ⟨room, a, es, ht, h1, h2, h3, h4, h5⟩
      dsimp only at ht h1 ⊢
      subst h1
      simp at h4
      dsimp only
      refine zd ht (by decide) (by decide) fun u t hu ht => ?_
      refine zpick [0, 0, 1, 3, 11] rfl (by simp; omega) fun n hn => ?_
      have hn2 : 0 ≤ n ∧ n ≤ 11 := by simp at hn; omega
      obtain ⟨b, hb⟩ : ∃ b : Nat, min ((a : Int) + n) (x.length : Int) = b := ⟨(min ((a : Int) + n) (x.length : Int)).toNat, by omega⟩
      rw [add_i, bind_ok', len_tx, bind_ok', min_i, bind_ok', hb, gt_i, bind_ok', ite_b]
      split
      · exact zw_ok.mpr ⟨_, rfl, ht, es, rfl, by omega, h5⟩
      · refine zd ht (by decide) (by decide) fun u t hu ht => ?_
        refine zpick [0, 0, 1, 2, 6] rfl (by simp; omega) fun n2 hn3 => ?_
        have hn4 : 0 ≤ n2 ∧ n2 ≤ 6 := by simp at hn3; omega
        obtain ⟨c, hc⟩ : ∃ c : Nat, min ((b : Int) + n2) (x.length : Int) = c := ⟨(min ((b : Int) + n2) (x.length : Int)).toNat, by omega⟩
        rw [add_i, bind_ok', bind_ok', min_i, bind_ok', hc]
        refine zd ht (by decide) (by decide) fun w t hw ht => ?_
        refine zpick [0, 1, 2, 6] rfl (by simp; omega) fun n5 hn5 => ?_
        have hn6 : 0 ≤ n5 ∧ n5 ≤ 6 := by simp at hn5; omega
        rw [min_i, bind_ok']
        refine zcn (lines_ok ht hm (by omega) (by omega)) fun r hr => ?_
        obtain ⟨i, e, hi, ht⟩ := hr
        obtain ⟨r1, t2⟩ := r
        dsimp only at e ht ⊢
        subst e
        obtain ⟨room2, hr2⟩ : ∃ k : Nat, (room : Int) - i.length = k := ⟨((room : Int) - i.length).toNat, by omega⟩
        rw [part_i, part_i, slc_tx, bind_ok', app_ok (by simp; omega), bind_ok', len_tx, bind_ok', sub_i, bind_ok', hr2, zw_ok, ed_mk]
        refine ⟨room2, c, es ++ [⟨b, (x.drop b).take (c - b), i⟩], ht, by simp, by omega, by omega, by simp; omega, ?_⟩
        intro e he
        rcases List.mem_append.mp he with he | he
        · exact h5 e he
        · rw [List.mem_singleton.mp he]
          exact ⟨by dsimp only; omega, by simp; omega, by dsimp only; omega⟩
    · rintro ⟨t, s⟩ ⟨room, a, es, ht, h1, h2, h3, h4, h5⟩
      dsimp only at ht h1
      subst h1
      exact ⟨_, rfl, ht, es, rfl, by simpa using h4, h5⟩
  · rintro c ⟨s, rfl, ht, he⟩
    simp -implicitDefEqProofs only [G.zw_ok, G.zw_no, G.zw_exc, G.bind_ok', G.nox_ok, G.add_i, G.sub_i, G.lt_i, G.le_i, G.gt_i, G.ge_i, G.eq_i, G.ne_i, G.eq_s, G.ne_s, G.eq_b, G.ne_b, G.max_i, G.min_i, G.len_t, G.len_l, G.tr_b, G.tr_i, G.tr_n, G.tr_t, G.tr_l, G.isN_n, G.isN_t, G.isN_l, G.isN_i, G.isN_s, G.isN_b, G.noN_n, G.noN_t, G.noN_l, G.noN_i, G.noN_s, G.noN_b, G.tupl_l, G.tupl_t, G.list_t, G.list_l, G.int_i, G.neg_i, G.abs_i, G.ite_b, G.and_b, G.or_b, G.not_b, G.part_i, G.un2, G.un3, G.fl_nx, G.fl_ret, G.slc_t, G.slc_l, G.it_seqT, G.it_seqL, G.it_revT, G.it_revL, G.it_enumT, G.it_enumL, G.it_zipT, G.it_zipL, G.cut_mid, G.cut_hi, G.cut_lo, G.cut_none, if_true, if_false, Bool.false_eq_true, Bool.not_true, Bool.not_false, reduceIte, decide_eq_true_eq, decide_true, decide_false, G.bind_id]
    exact ⟨he, ht⟩
theorem loose_edits_ok {t ms : List D} {x : Tx} {most : Int} (ht : Tp t) (hm : MenuOk ms) (hx : x.length ≤ 100) (h0 : 0 ≤ most) (h8 : most ≤ 8) : Zw (f_law_loose_edits t (.lst ms) (tx x) (.int most)) fun r => Eds 8 r.1 ∧ Tp r.2 := by
  unfold f_law_loose_edits
  rw [add_i, bind_ok']
  refine zd ht (by omega) (by omega) fun v t hv ht => ?_
  have hS : (2000 : Nat) ≤ SZ := by decide
  dsimp only
  rw [it_rngN (by omega), bind_ok']
  refine zc (P := fun s : List D × List D => Tp s.1 ∧ Eds 8 (.tup s.2)) ?_ ?_
  · refine zw_fold (fun r s => ∃ es : List Ed, Tp s.1 ∧ s.2 = es.map ed ∧ es.length + r.length ≤ 8 ∧ ∀ e ∈ es, EdB e) ⟨[], ht, rfl, by simp; omega, by simp⟩ ?_ ?_
    · rintro d ds ⟨t, s⟩ ⟨es, ht, h1, h4, h5⟩
      dsimp only at ht h1 ⊢
      subst h1
      simp at h4
      rw [len_tx, bind_ok', min_i, bind_ok', add_i, bind_ok']
      refine zd ht (by omega) (by omega) fun b t hb ht => ?_
      refine zd ht (by omega) (by omega) fun u t hu ht => ?_
      refine zpick [0, 0, 1, 2, 3, 6] rfl (by simp; omega) fun n2 hn3 => ?_
      have hn4 : 0 ≤ n2 ∧ n2 ≤ 6 := by simp at hn3; omega
      obtain ⟨c, hc⟩ : ∃ c : Nat, min ((b : Int) + n2) (x.length : Int) = c := ⟨(min ((b : Int) + n2) (x.length : Int)).toNat, by omega⟩
      dsimp only
      rw [add_i, bind_ok', bind_ok', min_i, bind_ok', hc, part_i, part_i, slc_tx, bind_ok']
      refine zd ht (by omega) (by omega) fun w t hw ht => ?_
      refine zpick [0, 1, 2, 6] rfl (by simp; omega) fun n5 hn5 => ?_
      have hn6 : 0 ≤ n5 ∧ n5 ≤ 6 := by simp at hn5; omega
      refine zcn (lines_ok ht hm (by omega) (by omega)) fun r hr => ?_
      obtain ⟨i, e, hi, ht⟩ := hr
      obtain ⟨r1, t2⟩ := r
      dsimp only at e ht ⊢
      subst e
      rw [tr_l, bind_ok', ite_b]
      refine zc (P := fun q : D × List D => Tp q.2 ∧ ∃ k : Bool, q.1 = .bl k ∧ (k = true → es ≠ [])) ?_ ?_
      · split
        · rename_i hne
          refine zd ht (by omega) (by omega) fun w t hw ht => ?_
          simp -implicitDefEqProofs only [G.zw_ok, G.zw_no, G.zw_exc, G.bind_ok', G.nox_ok, G.add_i, G.sub_i, G.lt_i, G.le_i, G.gt_i, G.ge_i, G.eq_i, G.ne_i, G.eq_s, G.ne_s, G.eq_b, G.ne_b, G.max_i, G.min_i, G.len_t, G.len_l, G.tr_b, G.tr_i, G.tr_n, G.tr_t, G.tr_l, G.isN_n, G.isN_t, G.isN_l, G.isN_i, G.isN_s, G.isN_b, G.noN_n, G.noN_t, G.noN_l, G.noN_i, G.noN_s, G.noN_b, G.tupl_l, G.tupl_t, G.list_t, G.list_l, G.int_i, G.neg_i, G.abs_i, G.ite_b, G.and_b, G.or_b, G.not_b, G.part_i, G.un2, G.un3, G.fl_nx, G.fl_ret, G.slc_t, G.slc_l, G.it_seqT, G.it_seqL, G.it_revT, G.it_revL, G.it_enumT, G.it_enumL, G.it_zipT, G.it_zipL, G.cut_mid, G.cut_hi, G.cut_lo, G.cut_none, if_true, if_false, Bool.false_eq_true, Bool.not_true, Bool.not_false, reduceIte, decide_eq_true_eq, decide_true, decide_false, G.bind_id]
          refine ⟨ht, _, rfl, fun _ e => ?_⟩
          subst e
          simp at hne
        · exact zw_ok.mpr ⟨ht, false, rfl, fun h => by cases h⟩
      · rintro ⟨q, t⟩ ⟨ht, k, h6, h7⟩
        dsimp only at h6 ht ⊢
        subst h6
        rw [ite_b]
        refine zc (P := fun q : List D × D => Tp q.1 ∧ ∃ e, q.2 = ed e ∧ EdB e) ?_ ?_
        · split
          · rename_i hk
            have hne := h7 hk
            have hlen : 0 < es.length := List.length_pos_iff.mpr hne
            rw [len_l, bind_ok', List.length_map]
            refine zd ht (by omega) (by omega) fun w t hw ht => ?_
            have hw' : w < es.length := by omega
            dsimp only
            rw [ix_l (d := ed es[w]) (by simp [hw']), bind_ok', zw_ok]
            exact ⟨ht, _, rfl, h5 _ (List.getElem_mem hw')⟩
          · rw [zw_ok, ed_mk]
            exact ⟨ht, _, rfl, by dsimp only; omega, by simp; omega, by dsimp only; omega⟩
        · rintro ⟨t, q⟩ ⟨ht, e, h8, h9⟩
          dsimp only at h8 ht ⊢
          subst h8
          rw [app_ok (by simp; omega), bind_ok', zw_ok]
          refine ⟨es ++ [e], ht, by simp, by simp; omega, ?_⟩
          intro e he
          rcases List.mem_append.mp he with he | he
          · exact h5 e he
          · rw [List.mem_singleton.mp he]; exact h9
    · rintro ⟨t, s⟩ ⟨es, ht, h1, h4, h5⟩
      dsimp only at ht h1
      subst h1
      exact ⟨ht, es, rfl, by simpa using h4, h5⟩
  · rintro s ⟨ht, he⟩
    simp -implicitDefEqProofs only [G.zw_ok, G.zw_no, G.zw_exc, G.bind_ok', G.nox_ok, G.add_i, G.sub_i, G.lt_i, G.le_i, G.gt_i, G.ge_i, G.eq_i, G.ne_i, G.eq_s, G.ne_s, G.eq_b, G.ne_b, G.max_i, G.min_i, G.len_t, G.len_l, G.tr_b, G.tr_i, G.tr_n, G.tr_t, G.tr_l, G.isN_n, G.isN_t, G.isN_l, G.isN_i, G.isN_s, G.isN_b, G.noN_n, G.noN_t, G.noN_l, G.noN_i, G.noN_s, G.noN_b, G.tupl_l, G.tupl_t, G.list_t, G.list_l, G.int_i, G.neg_i, G.abs_i, G.ite_b, G.and_b, G.or_b, G.not_b, G.part_i, G.un2, G.un3, G.fl_nx, G.fl_ret, G.slc_t, G.slc_l, G.it_seqT, G.it_seqL, G.it_revT, G.it_revL, G.it_enumT, G.it_enumL, G.it_zipT, G.it_zipL, G.cut_mid, G.cut_hi, G.cut_lo, G.cut_none, if_true, if_false, Bool.false_eq_true, Bool.not_true, Bool.not_false, reduceIte, decide_eq_true_eq, decide_true, decide_false, G.bind_id]
    exact ⟨he, ht⟩
theorem wild_edits_ok {t ms : List D} {most : Int} (ht : Tp t) (hm : MenuOk ms) (h0 : 0 ≤ most) (h8 : most ≤ 8) : Zw (f_law_wild_edits t (.lst ms) (.int most)) fun r => Eds 8 r.1 ∧ Tp r.2 := by
  unfold f_law_wild_edits
  refine zd ht (by omega) (by omega) fun v t hv ht => ?_
  refine zpick [4, 13, 31] rfl (by simp; omega) fun top htop => ?_
  have htop2 : 1 ≤ top ∧ top ≤ 31 := by simp at htop; omega
  rw [add_i, bind_ok']
  refine zd ht (by omega) (by omega) fun v t hv ht => ?_
  have hS : (2000 : Nat) ≤ SZ := by decide
  dsimp only
  rw [it_rngN (by omega), bind_ok']
  refine zc (P := fun s : List D × List D => Tp s.1 ∧ Eds 8 (.tup s.2)) ?_ ?_
  · refine zw_fold (fun r s => ∃ es : List Ed, Tp s.1 ∧ s.2 = es.map ed ∧ es.length + r.length ≤ 8 ∧ ∀ e ∈ es, EdB e) ⟨[], ht, rfl, by simp; omega, by simp⟩ ?_ ?_
    · rintro d ds ⟨t, s⟩ ⟨es, ht, h1, h4, h5⟩
      dsimp only at ht h1 ⊢
      subst h1
      simp at h4
      refine zd ht (by omega) (by omega) fun b t hb ht => ?_
      refine zd ht (by omega) (by omega) fun u t hu ht => ?_
      refine zpick [0, 1, 2, 6] rfl (by simp; omega) fun n5 hn5 => ?_
      have hn6 : 0 ≤ n5 ∧ n5 ≤ 6 := by simp at hn5; omega
      refine zcn (lines_ok ht hm (by omega) (by omega)) fun r hr => ?_
      obtain ⟨i, e, hi, ht⟩ := hr
      obtain ⟨r1, t2⟩ := r
      dsimp only at e ht ⊢
      subst e
      refine zd ht (by omega) (by omega) fun u t hu ht => ?_
      refine zpick [0, 1, 2, 6] rfl (by simp; omega) fun n7 hn7 => ?_
      have hn8 : 0 ≤ n7 ∧ n7 ≤ 6 := by simp at hn7; omega
      refine zcn (lines_ok ht hm (by omega) (by omega)) fun r hr => ?_
      obtain ⟨j, e, hj, ht⟩ := hr
      obtain ⟨r1, t2⟩ := r
      dsimp only at e ht ⊢
      subst e
      rw [tr_l, bind_ok', ite_b]
      refine zc (P := fun q : D × List D => Tp q.2 ∧ ∃ k : Bool, q.1 = .bl k ∧ (k = true → es ≠ [])) ?_ ?_
      · split
        · rename_i hne
          refine zd ht (by omega) (by omega) fun w t hw ht => ?_
          simp -implicitDefEqProofs only [G.zw_ok, G.zw_no, G.zw_exc, G.bind_ok', G.nox_ok, G.add_i, G.sub_i, G.lt_i, G.le_i, G.gt_i, G.ge_i, G.eq_i, G.ne_i, G.eq_s, G.ne_s, G.eq_b, G.ne_b, G.max_i, G.min_i, G.len_t, G.len_l, G.tr_b, G.tr_i, G.tr_n, G.tr_t, G.tr_l, G.isN_n, G.isN_t, G.isN_l, G.isN_i, G.isN_s, G.isN_b, G.noN_n, G.noN_t, G.noN_l, G.noN_i, G.noN_s, G.noN_b, G.tupl_l, G.tupl_t, G.list_t, G.list_l, G.int_i, G.neg_i, G.abs_i, G.ite_b, G.and_b, G.or_b, G.not_b, G.part_i, G.un2, G.un3, G.fl_nx, G.fl_ret, G.slc_t, G.slc_l, G.it_seqT, G.it_seqL, G.it_revT, G.it_revL, G.it_enumT, G.it_enumL, G.it_zipT, G.it_zipL, G.cut_mid, G.cut_hi, G.cut_lo, G.cut_none, if_true, if_false, Bool.false_eq_true, Bool.not_true, Bool.not_false, reduceIte, decide_eq_true_eq, decide_true, decide_false, G.bind_id]
          refine ⟨ht, _, rfl, fun _ e => ?_⟩
          subst e
          simp at hne
        · exact zw_ok.mpr ⟨ht, false, rfl, fun h => by cases h⟩
      · rintro ⟨q, t⟩ ⟨ht, k, h6, h7⟩
        dsimp only at h6 ht ⊢
        subst h6
        rw [ite_b]
        refine zc (P := fun q : List D × D => Tp q.1 ∧ ∃ e, q.2 = ed e ∧ EdB e) ?_ ?_
        · split
          · rename_i hk
            have hne := h7 hk
            have hlen : 0 < es.length := List.length_pos_iff.mpr hne
            rw [len_l, bind_ok', List.length_map]
            refine zd ht (by omega) (by omega) fun w t hw ht => ?_
            have hw' : w < es.length := by omega
            dsimp only
            rw [ix_l (d := ed es[w]) (by simp [hw']), bind_ok', zw_ok]
            exact ⟨ht, _, rfl, h5 _ (List.getElem_mem hw')⟩
          · rw [zw_ok, ed_mk]
            exact ⟨ht, _, rfl, by dsimp only; omega, by dsimp only; omega, by dsimp only; omega⟩
        · rintro ⟨t, q⟩ ⟨ht, e, h8, h9⟩
          dsimp only at h8 ht ⊢
          subst h8
          rw [app_ok (by simp; omega), bind_ok', zw_ok]
          refine ⟨es ++ [e], ht, by simp, by simp; omega, ?_⟩
          intro e he
          rcases List.mem_append.mp he with he | he
          · exact h5 e he
          · rw [List.mem_singleton.mp he]; exact h9
    · rintro ⟨t, s⟩ ⟨es, ht, h1, h4, h5⟩
      dsimp only at ht h1
      subst h1
      exact ⟨ht, es, rfl, by simpa using h4, h5⟩
  · rintro s ⟨ht, he⟩
    simp -implicitDefEqProofs only [G.zw_ok, G.zw_no, G.zw_exc, G.bind_ok', G.nox_ok, G.add_i, G.sub_i, G.lt_i, G.le_i, G.gt_i, G.ge_i, G.eq_i, G.ne_i, G.eq_s, G.ne_s, G.eq_b, G.ne_b, G.max_i, G.min_i, G.len_t, G.len_l, G.tr_b, G.tr_i, G.tr_n, G.tr_t, G.tr_l, G.isN_n, G.isN_t, G.isN_l, G.isN_i, G.isN_s, G.isN_b, G.noN_n, G.noN_t, G.noN_l, G.noN_i, G.noN_s, G.noN_b, G.tupl_l, G.tupl_t, G.list_t, G.list_l, G.int_i, G.neg_i, G.abs_i, G.ite_b, G.and_b, G.or_b, G.not_b, G.part_i, G.un2, G.un3, G.fl_nx, G.fl_ret, G.slc_t, G.slc_l, G.it_seqT, G.it_seqL, G.it_revT, G.it_revL, G.it_enumT, G.it_enumL, G.it_zipT, G.it_zipL, G.cut_mid, G.cut_hi, G.cut_lo, G.cut_none, if_true, if_false, Bool.false_eq_true, Bool.not_true, Bool.not_false, reduceIte, decide_eq_true_eq, decide_true, decide_false, G.bind_id]
    exact ⟨he, ht⟩
end G
namespace G
open PySem L2
theorem len_eds {es : List Ed} : z1 .len (eds es) = .ok (.int es.length) := by unfold eds; rw [len_t, List.length_map]
theorem slc_edsH {es : List Ed} {b : Nat} : zslc (eds es) none (some (b : Int)) = .ok (eds (es.take b)) := by
  unfold eds; rw [slc_t, cut_hi, List.map_take]
theorem slc_edsL {es : List Ed} {b : Nat} : zslc (eds es) (some (b : Int)) none = .ok (eds (es.drop b)) := by
  unfold eds; rw [slc_t, cut_lo, List.map_drop]
theorem add_eds {a b : List Ed} (h : a.length + b.length ≤ SZ) : z2 .add (eds a) (eds b) = .ok (eds (a ++ b)) := by
  unfold eds; rw [add_t (by simpa using h), List.map_append]
theorem eds_one {e : Ed} : D.tup [ed e] = eds [e] := rfl
theorem tx_one {s : Str} : D.tup [.str s] = tx [s] := rfl
theorem put_at (es : List Ed) (k : Nat) (e : Ed) (hk : k < es.length) (hl : es.length ≤ 100) : (zpart (.int (k : Nat)) fun i44 => (zslc (eds es) none (some i44)).bind fun r45 => (z2 .add r45 (D.tup [ed e])).bind fun r46 => (z2 .add (.int k) (D.int 1)).bind fun r47 => zpart r47 fun i48 => (zslc (eds es) (some i48) none).bind fun r49 => (z2 .add r46 r49).bind fun r50 => .ok r50) = .ok (eds (es.set k e)) := by
  have hS : (2000 : Nat) ≤ SZ := by decide
  have h1 : ((k : Int) + 1) = ((k + 1 : Nat) : Int) := by omega
  have h2 : (es.take k).length + [e].length ≤ SZ := by simp; omega
  have h3 : (es.take k ++ [e]).length + (es.drop (k + 1)).length ≤ SZ := by simp; omega
  rw [part_i, slc_edsH, bind_ok', eds_one, add_eds h2, bind_ok', add_i, bind_ok', h1, part_i, slc_edsL, bind_ok', add_eds h3, bind_ok']
  rw [List.set_eq_take_append_cons_drop, if_pos hk]
  simp
theorem eds_set {es : List Ed} {k : Nat} {e : Ed} (h : ∀ x ∈ es, EdB x) (he : EdB e) : ∀ x ∈ es.set k e, EdB x := by
  intro x hx
  rcases List.mem_or_eq_of_mem_set hx with hx | rfl
  · exact h x hx
  · exact he
theorem truth_tx {x : Tx} : z1 .truth (tx x) = .ok (.bl !x.isEmpty) := by unfold tx; rw [tr_t]; simp
theorem truth_eds {x : List Ed} : z1 .truth (eds x) = .ok (.bl !x.isEmpty) := by unfold eds; rw [tr_t]; simp
theorem list_eds {x : List Ed} : z1o .list (eds x) = .ok (x.map ed) := rfl
/-- the last step of several -/
theorem put_then {es : List Ed} {k : Nat} {e : Ed} {t' : List D} (hk : k < es.length) (hl : es.length ≤ 8) (h : ∀ x ∈ es, EdB x) (he : EdB e) (ht : Tp t') {d : D} (hd : d = ed e) :
    Zw (zpart (.int (k : Nat)) fun i44 => (zslc (eds es) none (some i44)).bind fun r45 => (z2 .add r45 (D.tup [d])).bind fun r46 => (z2 .add (.int k) (D.int 1)).bind fun r47 => zpart r47 fun i48 => (zslc (eds es) (some i48) none).bind fun r49 => (z2 .add r46 r49).bind fun r50 => Z.ok (r50, t')) (fun r : D × List D => Eds 9 r.1 ∧ Tp r.2) := by
  subst hd
  have h0 := put_at es k e hk (by omega)
  have h1 : (zpart (.int (k : Nat)) fun i44 => (zslc (eds es) none (some i44)).bind fun r45 => (z2 .add r45 (D.tup [ed e])).bind fun r46 => (z2 .add (.int k) (D.int 1)).bind fun r47 => zpart r47 fun i48 => (zslc (eds es) (some i48) none).bind fun r49 => (z2 .add r46 r49).bind fun r50 => Z.ok (r50, t')) = (zpart (.int (k : Nat)) fun i44 => (zslc (eds es) none (some i44)).bind fun r45 => (z2 .add r45 (D.tup [ed e])).bind fun r46 => (z2 .add (.int k) (D.int 1)).bind fun r47 => zpart r47 fun i48 => (zslc (eds es) (some i48) none).bind fun r49 => (z2 .add r46 r49).bind fun r50 => .ok r50).bind fun r => .ok (r, t') := by
    have ba : ∀ {α β γ : Type} {m : Z α} {f : α → Z β} {g : β → Z γ}, (m.bind f).bind g = m.bind fun a => (f a).bind g := fun {α β γ m f g} => by cases m <;> rfl
    simp only [part_i, ba, bind_ok', add_i]
  rw [h1, h0, bind_ok', zw_ok]
  exact ⟨⟨_, rfl, by simp; omega, eds_set h he⟩, ht⟩
theorem spoilt_ok {t ms : List D} {es : List Ed} (ht : Tp t) (hm : MenuOk ms) (hl : es.length ≤ 8) (hb : ∀ e ∈ es, EdB e) : Zw (f_law_spoilt t (.lst ms) (eds es)) fun r => Eds 9 r.1 ∧ Tp r.2 := by
  unfold f_law_spoilt
  have hS : (2000 : Nat) ≤ SZ := by decide
  rw [truth_eds, bind_ok', not_b, bind_ok', ite_b]
  split
  · refine zd ht (by decide) (by decide) fun v t hv ht => ?_
    refine zcn (lines_ok ht hm (by decide) (by decide)) fun r hr => ?_
    obtain ⟨i, e, hi, ht⟩ := hr
    obtain ⟨r1, t2⟩ := r
    dsimp only at e ht ⊢
    subst e
    refine zcn (lines_ok ht hm (by decide) (by decide)) fun r hr => ?_
    obtain ⟨j, e, hj, ht⟩ := hr
    obtain ⟨r1, t2⟩ := r
    dsimp only at e ht ⊢
    subst e
    rw [zw_ok, ed_mk, eds_one]
    refine ⟨⟨_, rfl, by simp, ?_⟩, ht⟩
    intro e he
    rw [List.mem_singleton.mp he]
    exact ⟨by dsimp only; omega, by dsimp only; omega, by dsimp only; omega⟩
  · rename_i hne
    have hlen : 0 < es.length := by
      cases es with
      | nil => simp at hne
      | cons e es => simp
    rw [len_eds, bind_ok']
    refine zd ht (by omega) (by omega) fun k t hk ht => ?_
    have hk' : k < es.length := by omega
    have hke := hb _ (List.getElem_mem hk')
    dsimp only
    rw [ed_at (List.getElem?_eq_getElem hk'), bind_ok']
    generalize es[k] = e at hke
    refine zd ht (by decide) (by decide) fun c t hc ht => ?_
    dsimp only
    rw [eq_i, bind_ok', and_b, ed_1, bind_ok', truth_tx, bind_ok']
    have e1 : (if decide ((c : Int) = 0) = true then Z.ok (D.bl !e.r.isEmpty) else Z.ok (D.bl false)) = .ok (.bl (decide ((c : Int) = 0) && !e.r.isEmpty)) := by cases decide ((c : Int) = 0) <;> rfl
    rw [e1, bind_ok', ite_b]
    split
    · rename_i h0
      rw [Bool.and_eq_true] at h0
      have hr0 : 0 < e.r.length := by
        have := h0.2
        cases hr : e.r with
        | nil => rw [hr] at this; simp at this
        | cons a b => simp
      rw [bind_ok', len_tx, bind_ok']
      have hkr := hke.2.1
      refine zd ht (by omega) (by omega) fun a t ha ht => ?_
      have ha' : a < e.r.length := by omega
      dsimp only
      rw [ed_0, bind_ok', bind_ok', part_i, slc_txH, bind_ok']
      refine menu_pick ht hm (f := fun r23 t => (z2 .add (tx (e.r.take a)) (D.tup [r23])).bind fun r24 =>
          (Z.ok (tx e.r)).bind fun r25 =>
          (z2 .add (.int a) (D.int 1)).bind fun r26 =>
          zpart r26 fun i27 =>
          (zslc r25 (some i27) none).bind fun r28 =>
          (z2 .add r24 r28).bind fun r29 =>
          (z2 .ix (ed e) (D.int 2)).bind fun r30 =>
          zpart (.int k) fun i31 =>
          (zslc (eds es) none (some i31)).bind fun r32 =>
          (z2 .add r32 (D.tup [(D.tup [.int e.p, r29, r30])])).bind fun r33 =>
          (z2 .add (.int k) (D.int 1)).bind fun r34 =>
          zpart r34 fun i35 =>
          (zslc (eds es) (some i35) none).bind fun r36 =>
          (z2 .add r33 r36).bind fun r37 =>
          .ok (r37, t)) fun s t ht => ?_
      have h1 : ((a : Int) + 1) = ((a + 1 : Nat) : Int) := by omega
      rw [tx_one, add_tx (by simp; omega), bind_ok', bind_ok', add_i, bind_ok', h1, part_i, slc_txL, bind_ok', add_tx (by simp; omega), bind_ok', ed_2, bind_ok']
      exact put_then (e := ⟨e.p, e.r.take a ++ [s] ++ e.r.drop (a + 1), e.i⟩) hk' hl hb ⟨hke.1, by simp; omega, hke.2.2⟩ ht rfl
    · rw [eq_i, bind_ok', ite_b]
      split
      · have h1 : max ((e.p : Int) - 1) 0 = ((e.p - 1 : Nat) : Int) := by omega
        rw [ed_0, bind_ok', sub_i, bind_ok', max_i, bind_ok', h1, bind_ok', ed_2, bind_ok']
        exact put_then (e := ⟨e.p - 1, e.r, e.i⟩) hk' hl hb ⟨by have := hke.1; dsimp only; omega, hke.2.1, hke.2.2⟩ ht rfl
      · rw [eq_i, bind_ok', ite_b]
        split
        · rw [ed_0, bind_ok', add_i, bind_ok']
          refine zd ht (by decide) (by decide) fun a t ha ht => ?_
          have h1 : min ((e.p : Int) + 1 + a) 30 = ((min (e.p + 1 + a) 30 : Nat) : Int) := by omega
          dsimp only
          rw [add_i, bind_ok', min_i, bind_ok', h1, bind_ok', ed_2, bind_ok']
          exact put_then (e := ⟨min (e.p + 1 + a) 30, e.r, e.i⟩) hk' hl hb ⟨by dsimp only; omega, hke.2.1, hke.2.2⟩ ht rfl
        · rw [eq_i, bind_ok', ite_b]
          split
          · rw [ed_0, bind_ok', bind_ok']
            refine menu_pick ht hm (f := fun r71 t => (z2 .add (tx e.r) (D.tup [r71])).bind fun r72 =>
              zpart (D.int 6) fun i73 =>
              (zslc r72 none (some i73)).bind fun r74 =>
              (z2 .ix (ed e) (D.int 2)).bind fun r75 =>
              zpart (.int k) fun i76 =>
              (zslc (eds es) none (some i76)).bind fun r77 =>
              (z2 .add r77 (D.tup [(D.tup [.int e.p, r74, r75])])).bind fun r78 =>
              (z2 .add (.int k) (D.int 1)).bind fun r79 =>
              zpart r79 fun i80 =>
              (zslc (eds es) (some i80) none).bind fun r81 =>
              (z2 .add r78 r81).bind fun r82 =>
              .ok (r82, t)) fun s t ht => ?_
            have h6 : (6 : Int) = ((6 : Nat) : Int) := rfl
            have hkr := hke.2.1
            rw [tx_one, add_tx (by simp; omega), bind_ok', h6, part_i, slc_txH, bind_ok', ed_2, bind_ok']
            exact put_then (e := ⟨e.p, (e.r ++ [s]).take 6, e.i⟩) hk' hl hb ⟨hke.1, by simp; omega, hke.2.2⟩ ht rfl
          · rw [eq_i, bind_ok', and_b, bind_ok', lt_i, bind_ok']
            have e2 : (if decide ((c : Int) = 4) = true then Z.ok (D.bl (decide ((es.length : Int) < 8))) else Z.ok (D.bl false)) = .ok (.bl (decide ((c : Int) = 4) && decide ((es.length : Int) < 8))) := by cases decide ((c : Int) = 4) <;> rfl
            rw [e2, bind_ok', ite_b]
            split
            · rw [part_i, slc_edsH, bind_ok', eds_one, add_eds (by simp; omega), bind_ok', part_i, slc_edsL, bind_ok', add_eds (by simp; omega), bind_ok', zw_ok]
              refine ⟨⟨_, rfl, by simp; omega, ?_⟩, ht⟩
              intro x hx
              simp only [List.mem_append, List.mem_singleton] at hx
              rcases hx with (hx | rfl) | hx
              · exact hb x (List.mem_of_mem_take hx)
              · exact hke
              · exact hb x (List.mem_of_mem_drop hx)
            · rw [bind_ok']
              refine zd ht (by omega) (by omega) fun j t hj ht => ?_
              have hj' : j < es.length := by omega
              dsimp only
              rw [list_eds, bind_ok', ed_at (List.getElem?_eq_getElem hj'), bind_ok', st_ok (by simpa using hk'), bind_ok', st_ok (by simpa using hj'), bind_ok', tupl_l, bind_ok', zw_ok, ← List.map_set, ← List.map_set]
              exact ⟨⟨_, rfl, by simp; omega, eds_set (eds_set hb (hb _ (List.getElem_mem hj'))) hke⟩, ht⟩
theorem some_edits_ok {t ms : List D} {x : Tx} (ht : Tp t) (hm : MenuOk ms) (hx : x.length ≤ 100) : Zw (f_law_some_edits t (.lst ms) (tx x)) fun r => Eds 9 r.1 ∧ Tp r.2 := by
  have up : ∀ d, Eds 8 d → Eds 9 d := fun d ⟨es, e, h1, h2⟩ => ⟨es, e, by omega, h2⟩
  unfold f_law_some_edits
  refine zd ht (by decide) (by decide) fun c t hc ht => ?_
  dsimp only
  rw [eq_i, bind_ok', ite_b]
  split
  · refine zd ht (by decide) (by decide) fun v t hv ht => ?_
    refine zpick [3, 8] rfl (by simp; omega) fun n hn => ?_
    have hn2 : 0 ≤ n ∧ n ≤ 8 := by simp at hn; omega
    refine zcn (wild_edits_ok ht hm hn2.1 hn2.2) fun r hr => ?_
    exact zw_ok.mpr ⟨up _ hr.1, hr.2⟩
  · rw [lt_i, bind_ok', ite_b]
    refine zc (P := fun s : List D × D => Tp s.1 ∧ Eds 8 s.2) ?_ ?_
    · split
      · refine zcn (fit_edits_ok ht hm hx) fun r hr => ?_
        exact zw_ok.mpr ⟨hr.2, hr.1⟩
      · refine zd ht (by decide) (by decide) fun v t hv ht => ?_
        refine zpick [3, 8] rfl (by simp; omega) fun n hn => ?_
        have hn2 : 0 ≤ n ∧ n ≤ 8 := by simp at hn; omega
        refine zcn (loose_edits_ok ht hm hx hn2.1 hn2.2) fun r hr => ?_
        exact zw_ok.mpr ⟨hr.2, hr.1⟩
    · rintro ⟨t, d⟩ ⟨ht, es, h1, h2, h3⟩
      dsimp only at ht h1 ⊢
      subst h1
      rw [eq_i, bind_ok', or_b, eq_i, bind_ok']
      have e2 : (if decide ((c : Int) = 2) = true then Z.ok (D.bl true) else Z.ok (D.bl (decide ((c : Int) = 4)))) = .ok (.bl (decide ((c : Int) = 2) || decide ((c : Int) = 4))) := by cases decide ((c : Int) = 2) <;> rfl
      rw [e2, bind_ok', ite_b]
      refine zc (P := fun s : List D × D => Tp s.1 ∧ Eds 9 s.2) ?_ ?_
      · split
        · refine zcn (spoilt_ok ht hm h2 h3) fun r hr => ?_
          exact zw_ok.mpr ⟨hr.2, hr.1⟩
        · exact zw_ok.mpr ⟨ht, up _ ⟨es, rfl, h2, h3⟩⟩
      · rintro s hs
        exact zw_ok.mpr ⟨hs.2, hs.1⟩
theorem plain_tx {x : Tx} (h : x.length ≤ SZ) : plain 29 (tx x) := ⟨by simpa using h, fun d hd => by obtain ⟨s, _, rfl⟩ := List.mem_map.mp hd; trivial⟩
theorem eds_b {n : Nat} {es : List Ed} (hn : n ≤ 1000) (h1 : es.length ≤ n) (h2 : ∀ e ∈ es, EdB e) : EsB es := ⟨by omega, fun e he => by have := h2 e he; unfold EdB at this; omega⟩
end G
namespace G
open PySem L2
section
variable {α γ σ : Type} {X : Nv → Prop} {Q : γ → Rs α → Prop} {Φ : Fn} {shs : Nat → Nat → Shape} {nv nv1 : Nv} {k : R → Nv → Rs α}
end
end G
namespace G
open PySem L2
section
variable {α γ δ τ σ ρ : Type} {X : Nv → Prop} {m m1 m2 : Z γ} {Q : γ → Rs α → Prop} {Φ : Fn} {shs : Nat → Nat → Shape} {nv nv1 : Nv} {ss : List S}
variable {Q : γ → Rs Fl → Prop}
end
end G
namespace G
open PySem L2
/-! ### try, by plain reading -/
def ztry {α : Type} (m : Z D) (onx rest : Z α) : Z α := match m with
  | .ok _ => rest
  | .exc 0 _ => onx
  | _ => .no
section
variable {γ : Type} {X : Nv → Prop} {Q : γ → Rs Fl → Prop} {Φ : Fn} {shs : Nat → Nat → Shape} {nv : Nv} {ss : List S}
theorem b_try {e : E} {i : Nat} {m : Z D} {onx rest : Z γ} (he : L (fun _ => True) m (evE Φ shs e nv) (QE R.val fun _ => nv)) (h1 : ∀ nv', L X onx (Rs.ok (Fl.ret (.val (.bl true))) nv') Q) (h2 : L X rest (evB Φ shs ss nv) Q) : L X (ztry m onx rest) (evB Φ shs (.tryR e 0 i :: ss) nv) Q := by
  rw [evB, evS]
  cases m with
  | ok c =>
    have h := he.un
    have h : evE Φ shs e nv = .ok (.val c) nv := h
    rw [h]
    exact h2
  | exc c as =>
    obtain ⟨nv', _, h⟩ := he.un
    rw [h]
    cases c with
    | zero =>
      dsimp only
      rw [if_pos rfl]
      exact h1 _
    | succ c => exact l_no
  | no => exact l_no
end
end G
namespace G
open PySem L2
/-- inverse_edits(edits) -/
def f_inverse_edits (edits : D) : Z (D) :=
  (f_in_order edits).bind fun r1 =>
  (z1 .truth r1).bind fun r2 =>
  (znot r2).bind fun r3 =>
  zite r3 (
  .exc 0 []) (
  (itD .seq [edits]).bind fun xs7 =>
    (foldZ (fun d6 (s4 : List D × D) =>
    (zun3 d6).bind fun p8 =>
      (z2 .add p8.1 s4.2).bind fun r9 =>
      (zapp s4.1 (D.tup [r9, p8.2.2, p8.2.1])).bind fun l10 =>
      (z1 .len p8.2.2).bind fun r11 =>
      (z1 .len p8.2.1).bind fun r12 =>
      (z2 .sub r11 r12).bind fun r13 =>
      (zaug .add s4.2 r13).bind fun r14 =>
      .ok (l10, r14)) xs7 ([], (D.int 0))).bind fun s5 =>
    (z1 .tupl (D.lst s5.1)).bind fun r15 =>
    .ok r15)
/-- _law_refused(edits) -/
def f_law_refused (edits : D) : Z (D) :=
  ztry ((f_inverse_edits edits).bind fun r1 =>
    .ok r1) (.ok (D.bl true)) (
  .ok (D.bl false))
/-- _law_due(edits) -/
def f_law_due_28 (edits : D) : Z (D) :=
  (itD .seq [edits]).bind fun xs4 =>
  (foldZ (fun d3 (s1 : List D × D) =>
  (z2 .ix d3 (D.int 0)).bind fun r5 =>
    (z2 .add r5 s1.2).bind fun r6 =>
    (z2 .ix d3 (D.int 2)).bind fun r7 =>
    (z2 .ix d3 (D.int 1)).bind fun r8 =>
    (zapp s1.1 (D.tup [r6, r7, r8])).bind fun l9 =>
    (z2 .ix d3 (D.int 2)).bind fun r10 =>
    (z1 .len r10).bind fun r11 =>
    (z2 .add s1.2 r11).bind fun r12 =>
    (z2 .ix d3 (D.int 1)).bind fun r13 =>
    (z1 .len r13).bind fun r14 =>
    (z2 .sub r12 r14).bind fun r15 =>
    .ok (l9, r15)) xs4 ([], (D.int 0))).bind fun s2 =>
  (z1 .tupl (D.lst s2.1)).bind fun r16 =>
  .ok r16
/-- law(script) -/
def f_law_28 (script : D) : Z (D) :=
  (f_law_tape script).bind fun r1 =>
  (Z.nox (f_law_menu r1)).bind fun p2 =>
  (Z.nox (f_law_row p2.2 (D.lst p2.1))).bind fun p3 =>
  zpart (D.int 12) fun i4 =>
  (zslc p3.1 none (some i4)).bind fun r5 =>
  (Z.nox (f_law_some_edits p3.2 (D.lst p2.1) p3.1)).bind fun p6 =>
  (f_law_ordered p6.1).bind fun r7 =>
  (z1 .truth r7).bind fun r8 =>
  (znot r8).bind fun r9 =>
  zite r9 (
  (itD .rng [(D.int 2)]).bind fun xs13 =>
    (forZ (σ := Unit) (ρ := D) (fun d12 s10 =>
    zpart (D.int 1) fun i14 =>
      (zslc p6.1 none (some i14)).bind fun r15 =>
      (f_inverse_edits r15).bind fun r16 =>
      zpart (D.int 1) fun i17 =>
      (zslc p6.1 none (some i17)).bind fun r18 =>
      (f_law_due_28 r18).bind fun r19 =>
      (f_law_same 30 r16 r19).bind fun r20 =>
      (z1 .truth r20).bind fun r21 =>
      (znot r21).bind fun r22 =>
      (zor r22 ((f_law_refused p6.1).bind fun r23 =>
        (z1 .truth r23).bind fun r24 =>
        (znot r24).bind fun r25 =>
        .ok r25)).bind fun r26 =>
      zite r26 (
      .ok (.ret (D.bl false))) (
      .ok (.nx ()))) xs13 ()).bind fun c => zfl c (fun s11 =>
    .ok (D.bl true)) fun c => .ok c) (
  (f_inverse_edits p6.1).bind fun r27 =>
    (f_law_due_28 p6.1).bind fun r28 =>
    (f_law_same 30 r27 r28).bind fun r29 =>
    (z1 .truth r29).bind fun r30 =>
    (znot r30).bind fun r31 =>
    (zor r31 ((f_in_order r27).bind fun r32 =>
      (f_law_same 30 r32 (D.bl true)).bind fun r33 =>
      (z1 .truth r33).bind fun r34 =>
      (znot r34).bind fun r35 =>
      .ok r35)).bind fun r36 =>
    zite r36 (
    .ok (D.bl false)) (
    (f_inverse_edits r27).bind fun r37 =>
      (f_law_same 30 r37 p6.1).bind fun r38 =>
      (z1 .truth r38).bind fun r39 =>
      (znot r39).bind fun r40 =>
      zite r40 (
      .ok (D.bl false)) (
      (f_apply_edits r5 p6.1).bind fun r41 =>
        (f_law_applied r5 p6.1).bind fun r42 =>
        (f_law_same 30 r41 r42).bind fun r43 =>
        (z1 .truth r43).bind fun r44 =>
        (znot r44).bind fun r45 =>
        zite r45 (
        .ok (D.bl false)) (
        (z1 .isN r41).bind fun r46 =>
          (zor r46 ((f_apply_edits r41 r27).bind fun r47 =>
            (f_law_same 30 r47 r5).bind fun r48 =>
            .ok r48)).bind fun r49 =>
          .ok r49))))
end G
namespace G
open PySem L2
/-! ### inverse edits -/
def inv (a b : Nat) : List Ed → List Ed
  | [] => []
  | e :: es => ⟨b + (e.p - a), e.i, e.r⟩ :: inv e.e (b + (e.p - a) + e.i.length) es
def Fol (a : Nat) : List Ed → Prop
  | [] => True
  | e :: es => a ≤ e.p ∧ Fol e.e es
theorem fol_of : ∀ {es : List Ed} {a : Nat}, inOrd es = true → (∀ e, es.head? = some e → a ≤ e.p) → Fol a es
  | [], a, _, _ => trivial
  | [e], a, _, h => ⟨h e rfl, trivial⟩
  | e :: f :: es, a, h, h2 => ⟨h2 e rfl, fol_of (inOrd_tail h) fun x hx => by cases hx; exact inOrd_head h⟩
theorem fol_0 {es : List Ed} (h : inOrd es = true) : Fol 0 es := fol_of h fun _ _ => Nat.zero_le _
theorem inv_len : ∀ (es : List Ed) (a b : Nat), (inv a b es).length = es.length
  | [], _, _ => rfl
  | e :: es, a, b => by simp only [inv, List.length_cons, inv_len es]
theorem inv_ord : ∀ (es : List Ed) (a b : Nat), inOrd (inv a b es) = true
  | [], _, _ => rfl
  | [_], _, _ => rfl
  | e :: f :: es, a, b => by
    have := inv_ord (f :: es) e.e (b + (e.p - a) + e.i.length)
    simp only [inv] at this ⊢
    simp only [inOrd, Bool.and_eq_true, decide_eq_true_eq]
    exact ⟨by unfold Ed.e; dsimp only; omega, this⟩
theorem inv_inv : ∀ (es : List Ed) (a b : Nat), Fol a es → inv b a (inv a b es) = es
  | [], _, _, _ => rfl
  | e :: es, a, b, h => by
    obtain ⟨h1, h2⟩ := h
    simp only [inv]
    have e1 : a + (b + (e.p - a) - b) = e.p := by omega
    rw [e1]
    have e2 : (⟨b + (e.p - a), e.i, e.r⟩ : Ed).e = b + (e.p - a) + e.i.length := rfl
    have e3 : e.p + e.r.length = e.e := rfl
    rw [e2, e3, inv_inv es e.e _ h2]
theorem inv_b : ∀ (es : List Ed) (a b n : Nat), Fol a es → (∀ e ∈ es, EdB e) → b ≤ a + 100 * n → ∀ e ∈ inv a b es, e.p ≤ 100 + 100 * (n + es.length) ∧ e.r.length ≤ 100 ∧ e.i.length ≤ 100
  | [], _, _, _, _, _, _, e, h => by simp [inv] at h
  | e :: es, a, b, n, hf, hb, hn, x, hx => by
    obtain ⟨h1, h2⟩ := hf
    obtain ⟨b1, b2, b3⟩ := hb e (List.mem_cons_self ..)
    simp only [inv] at hx
    rcases List.mem_cons.mp hx with rfl | hx
    · dsimp only
      simp only [List.length_cons]
      exact ⟨by omega, b3, b2⟩
    · have hee : e.e = e.p + e.r.length := rfl
      have := inv_b es e.e (b + (e.p - a) + e.i.length) (n + 1) h2 (fun y hy => hb y (List.mem_cons_of_mem _ hy)) (by omega) x hx
      simp only [List.length_cons]
      omega
/-- what comes back -/
theorem inv_back (t : Tx) : ∀ (es : List Ed) (a : Nat) (pre : Tx), Fol a es → (∀ e ∈ es, fits t e = true) →
    (∀ e ∈ inv a pre.length es, fits (pre ++ resG t a es) e = true) ∧ resG (pre ++ resG t a es) pre.length (inv a pre.length es) = t.drop a
  | [], a, pre, _, _ => by
    refine ⟨by simp [inv], ?_⟩
    simp [inv, resG]
  | e :: es, a, pre, hf, hfit => by
    obtain ⟨h1, h2⟩ := hf
    have hfe := hfit e (List.mem_cons_self ..)
    have hle := fits_len hfe
    have hee : e.e = e.p + e.r.length := rfl
    have hr : (t.drop e.p).take e.r.length = e.r := by
      unfold fits at hfe
      simp only [Bool.and_eq_true, decide_eq_true_eq] at hfe
      exact hfe.2
    have hml : ((t.drop a).take (e.p - a)).length = e.p - a := by rw [List.length_take, List.length_drop]; omega
    have hpl : (pre ++ (t.drop a).take (e.p - a) ++ e.i).length = pre.length + (e.p - a) + e.i.length := by rw [List.length_append, List.length_append, hml]
    have ih := inv_back t es e.e (pre ++ (t.drop a).take (e.p - a) ++ e.i) h2 fun x hx => hfit x (List.mem_cons_of_mem _ hx)
    rw [hpl] at ih
    have hu : pre ++ resG t a (e :: es) = pre ++ (t.drop a).take (e.p - a) ++ e.i ++ resG t e.e es := by simp only [resG, List.append_assoc]
    rw [hu]
    have hd : ∀ n, (pre ++ (t.drop a).take (e.p - a) ++ e.i ++ resG t e.e es).drop (pre.length + n) = ((t.drop a).take (e.p - a) ++ (e.i ++ resG t e.e es)).drop n := fun n => by
      rw [List.append_assoc, List.append_assoc, List.drop_append]
      simp
    refine ⟨fun x hx => ?_, ?_⟩
    · simp only [inv] at hx
      rcases List.mem_cons.mp hx with rfl | hx
      · unfold fits
        simp only [Bool.and_eq_true, decide_eq_true_eq]
        constructor
        · unfold Ed.e
          dsimp only
          rw [List.length_append, hpl]
          omega
        · rw [hd]
          have e1 : ((t.drop a).take (e.p - a) ++ (e.i ++ resG t e.e es)).drop (e.p - a) = e.i ++ resG t e.e es := by
            rw [List.drop_append, hml]
            simp [hml]
          rw [e1]
          simp
      · exact ih.1 x hx
    · simp only [inv, resG]
      have e2 : (⟨pre.length + (e.p - a), e.i, e.r⟩ : Ed).e = pre.length + (e.p - a) + e.i.length := rfl
      rw [e2, ih.2]
      have e3 := hd 0
      rw [Nat.add_zero, List.drop_zero] at e3
      rw [e3, show pre.length + (e.p - a) - pre.length = e.p - a by omega]
      have e4 : ((t.drop a).take (e.p - a) ++ (e.i ++ resG t e.e es)).take (e.p - a) = (t.drop a).take (e.p - a) := by
        rw [List.take_append_of_le_length (by rw [hml]; exact Nat.le_refl _), List.take_take, Nat.min_self]
      rw [e4, ← hr]
      have e5 : t.drop e.p = (t.drop e.p).take e.r.length ++ t.drop e.e := by
        conv => lhs; rw [← List.take_append_drop e.r.length (t.drop e.p)]
        rw [List.drop_drop, hee]
      have e6 : t.drop a = (t.drop a).take (e.p - a) ++ t.drop e.p := by
        conv => lhs; rw [← List.take_append_drop (e.p - a) (t.drop a)]
        rw [List.drop_drop, show a + (e.p - a) = e.p by omega]
      rw [List.append_assoc, ← e5, ← e6]
theorem res_sum {t : Tx} : ∀ (es : List Ed) (k : Nat), Fol k es → (∀ e ∈ es, e.e ≤ t.length ∧ e.i.length ≤ 100) → k ≤ t.length → (resG t k es).length ≤ (t.length - k) + 100 * es.length
  | [], k, _, _, _ => by simp [resG]
  | e :: es, k, hf, h, hk => by
    obtain ⟨h1, h2⟩ := hf
    obtain ⟨a1, a2⟩ := h e (List.mem_cons_self ..)
    have hee : e.e = e.p + e.r.length := rfl
    have ih := res_sum (t := t) es e.e h2 (fun x hx => h x (List.mem_cons_of_mem _ hx)) a1
    simp only [resG, List.length_append, List.length_take, List.length_drop, List.length_cons]
    omega
/-! ### the program -/
theorem inv_loop : ∀ (es acc : List Ed) (a b : Nat), Fol a es → acc.length + es.length ≤ 1000 → foldZ (fun d6 (s4 : List D × D) => (zun3 d6).bind fun p8 => (z2 .add p8.1 s4.2).bind fun r9 => (zapp s4.1 (D.tup [r9, p8.2.2, p8.2.1])).bind fun l10 => (z1 .len p8.2.2).bind fun r11 => (z1 .len p8.2.1).bind fun r12 => (z2 .sub r11 r12).bind fun r13 => (zaug .add s4.2 r13).bind fun r14 => .ok (l10, r14)) (es.map ed) (acc.map ed, .int ((b : Int) - a)) = .ok ((acc ++ inv a b es).map ed, .int ((b : Int) - a + (es.map fun e => (e.i.length : Int) - e.r.length).sum))
  | [], acc, a, b, _, _ => by simp [foldZ, inv]
  | e :: es, acc, a, b, hf, hl => by
    have hz : (2000 : Nat) ≤ SZ := by decide
    obtain ⟨h1, h2⟩ := hf
    simp only [List.length_cons] at hl
    rw [List.map_cons]
    simp only [foldZ]
    rw [un3_ed, bind_ok', add_i, bind_ok', show ((e.p : Int) + ((b : Int) - a)) = ((b + (e.p - a) : Nat) : Int) by omega, G.app_ok (by simp; omega), bind_ok', len_tx, bind_ok', len_tx, bind_ok', sub_i, bind_ok', show ∀ x y : Int, zaug .add (.int x) (.int y) = .ok (.int (x + y)) from fun _ _ => rfl, bind_ok', bind_ok']
    have hee : e.e = e.p + e.r.length := rfl
    have e1 : acc.map ed ++ [D.tup [.int ((b + (e.p - a) : Nat) : Int), tx e.i, tx e.r]] = (acc ++ [(⟨b + (e.p - a), e.i, e.r⟩ : Ed)]).map ed := by rw [List.map_append]; rfl
    rw [e1, show ((b : Int) - a + ((e.i.length : Int) - e.r.length)) = ((b + (e.p - a) + e.i.length : Nat) : Int) - (e.e : Nat) by omega, inv_loop es _ e.e _ h2 (by simp; omega)]
    simp only [inv, List.append_assoc, List.singleton_append, List.map_cons, List.sum_cons]
    congr 3
    omega
theorem inverse_ok (es : List Ed) (hl : es.length ≤ 1000) (h : inOrd es = true) : f_inverse_edits (eds es) = .ok (eds (inv 0 0 es)) := by
  have hz : (2000 : Nat) ≤ SZ := by decide
  unfold f_inverse_edits
  rw [in_order_ok es (by omega), bind_ok', tr_b, bind_ok', not_b, bind_ok', h, ite_b, if_neg (by decide), show itD .seq [eds es] = .ok (es.map ed) from rfl, bind_ok']
  have := inv_loop es [] 0 0 (fol_0 h) (by simpa using hl)
  rw [show (([] : List Ed).map ed, D.int (((0 : Nat) : Int) - (0 : Nat))) = (([] : List D), D.int 0) from rfl] at this
  rw [this, bind_ok', tupl_l, bind_ok']
  rfl
theorem inverse_no (es : List Ed) (hl : es.length ≤ 1000) (h : inOrd es = false) : f_inverse_edits (eds es) = .exc 0 [] := by
  have hz : (2000 : Nat) ≤ SZ := by decide
  unfold f_inverse_edits
  rw [in_order_ok es (by omega), bind_ok', tr_b, bind_ok', not_b, bind_ok', h, ite_b, if_pos (by decide)]
theorem refused_ok (es : List Ed) (hl : es.length ≤ 1000) (h : inOrd es = false) : f_law_refused (eds es) = .ok (.bl true) := by
  unfold f_law_refused
  rw [inverse_no es hl h]
  rfl
theorem due_loop : ∀ (es acc : List Ed) (a b : Nat), Fol a es → acc.length + es.length ≤ 1000 → foldZ (fun d3 (s1 : List D × D) => (z2 .ix d3 (D.int 0)).bind fun r5 => (z2 .add r5 s1.2).bind fun r6 => (z2 .ix d3 (D.int 2)).bind fun r7 => (z2 .ix d3 (D.int 1)).bind fun r8 => (zapp s1.1 (D.tup [r6, r7, r8])).bind fun l9 => (z2 .ix d3 (D.int 2)).bind fun r10 => (z1 .len r10).bind fun r11 => (z2 .add s1.2 r11).bind fun r12 => (z2 .ix d3 (D.int 1)).bind fun r13 => (z1 .len r13).bind fun r14 => (z2 .sub r12 r14).bind fun r15 => .ok (l9, r15)) (es.map ed) (acc.map ed, .int ((b : Int) - a)) = .ok ((acc ++ inv a b es).map ed, .int ((b : Int) - a + (es.map fun e => (e.i.length : Int) - e.r.length).sum))
  | [], acc, a, b, _, _ => by simp [foldZ, inv]
  | e :: es, acc, a, b, hf, hl => by
    have hz : (2000 : Nat) ≤ SZ := by decide
    obtain ⟨h1, h2⟩ := hf
    simp only [List.length_cons] at hl
    rw [List.map_cons]
    simp only [foldZ]
    rw [ed_0, bind_ok', add_i, bind_ok', ed_2, bind_ok', ed_1, bind_ok', show ((e.p : Int) + ((b : Int) - a)) = ((b + (e.p - a) : Nat) : Int) by omega, G.app_ok (by simp; omega), bind_ok', bind_ok', len_tx, bind_ok', add_i, bind_ok', bind_ok', len_tx, bind_ok', sub_i, bind_ok', bind_ok']
    have hee : e.e = e.p + e.r.length := rfl
    have e1 : acc.map ed ++ [D.tup [.int ((b + (e.p - a) : Nat) : Int), tx e.i, tx e.r]] = (acc ++ [(⟨b + (e.p - a), e.i, e.r⟩ : Ed)]).map ed := by rw [List.map_append]; rfl
    rw [e1, show ((b : Int) - a + (e.i.length : Int) - e.r.length) = ((b + (e.p - a) + e.i.length : Nat) : Int) - (e.e : Nat) by omega, due_loop es _ e.e _ h2 (by simp; omega)]
    simp only [inv, List.append_assoc, List.singleton_append, List.map_cons, List.sum_cons]
    congr 3
    omega
theorem due28_ok (es : List Ed) (hl : es.length ≤ 1000) (h : inOrd es = true) : f_law_due_28 (eds es) = .ok (eds (inv 0 0 es)) := by
  unfold f_law_due_28
  rw [show itD .seq [eds es] = .ok (es.map ed) from rfl, bind_ok']
  have := due_loop es [] 0 0 (fol_0 h) (by simpa using hl)
  rw [show (([] : List Ed).map ed, D.int (((0 : Nat) : Int) - (0 : Nat))) = (([] : List D), D.int 0) from rfl] at this
  rw [this, bind_ok', tupl_l, bind_ok']
  rfl
end G
namespace G
open PySem PySem.Spec PyProof.Rows L2
variable [Tb]
section
variable {C : Cfg} {W : WX} {M H M1 H1 : Hp} {σ σ' : L2.St} {nv nv1 : Nv} {Φ : Fn} {shs : Nat → Nat → Shape} {K : PySem.W.Frag} {x y : Expr} {a b : E} {pos : Pos}
/-! ### xs[::-1] -/
/-! ### len(set(xs)) of ints -/
/-! ### tuple.index, tuple.count of flat things -/
/-! ### not x, by its truth -/
/-! ### displays of numbers -/
def intsX : List Expr → Option (List Int)
  | [] => some []
  | .Constant (.int n) _ _ :: xs => (intsX xs).map (n :: ·)
  | _ :: _ => none
theorem snd_ints : ∀ {xs : List Expr} {ns : List Int}, intsX xs = some ns → SndA C W xs (evOs Φ shs (ns.map E.int))
  | [], _, h => by cases h; exact sndA_nil
  | x :: xs, ns, h => by
    cases x <;> first | (cases h; done) | skip
    rename_i c k p
    cases c <;> first | (cases h; done) | skip
    rename_i n
    simp only [intsX] at h
    cases q : intsX xs with
    | none => rw [q] at h; cases h
    | some ms =>
      rw [q] at h
      cases h
      exact sa_e rfl rfl snd_int (snd_ints q)
/-! ### constants of the module -/
end
end G
namespace GI
open PySem PySem.Spec PyProof.Rows L2
/-! ### set(xs) of a list of ints: which ints there are -/
section
variable {P : Program} {w : World} {A : Around} {E : Value → Shared → Prop} {s : Shared}
/-- the set once its list has been walked through -/
def Fin (w : World) (s : Shared) (ns : List Int) : Shared → Prop := fun s₂ => ∃ h' tk c, s₂ = { s with heap := h', toks := tk } ∧ SetR w h' s.heap.objs.size (fun j => decide (j ∈ ns)) c ∧ c ≤ ns.length ∧ ∀ b o, s.heap.get? b = some o → h'.get? b = some o
end
end GI
namespace G
open PySem PySem.Spec PyProof.Rows L2
variable [Tb]
/-! ### sorted(set(t)) of numbers -/
section
variable {C : Cfg} {W : WX} {M H M1 H1 : Hp} {σ σ' : L2.St} {nv nv1 : Nv} {Φ : Fn} {shs : Nat → Nat → Shape} {K : PySem.W.Frag} {x y : Expr} {a b : E} {pos : Pos}
end
end G
set_option maxHeartbeats 1000000
namespace RT
open PySem PySem.Spec PyProof.Rows
/-! ### tuple(reversed(tuple)) -/
theorem IsTup.keep {h h' : Heap} {a : Addr} {xs : Array Value} (x : IsTup h a xs) (e : ∀ o, h.get? a = some o → h'.get? a = some o) : IsTup h' a xs := by
  obtain ⟨o, ho, r⟩ := x
  exact ⟨o, e _ ho, r⟩
section
variable {prog : Program} {w : World} {A : Around} {E : Value → Shared → Prop} {s : Shared}
end
section
variable {prog : Program} {w : World} {A : Around} {E : Value → Shared → Prop} {s : Shared}
end
end RT
set_option maxHeartbeats 1000000
namespace GW
open PySem PySem.Spec PyProof.Rows L2 RT
section
variable {X : Cx}
end
end GW
namespace G
open PySem PySem.Spec PyProof.Rows L2
variable [Tb]
section
variable {C : Cfg} {W : WX} {Φ : Fn} {shs : Nat → Nat → Shape} {x y : Expr} {a b : E} {pos : Pos}
/-! ### a dict of the module, texts to rows of texts -/
end
section
variable {C : Cfg} {W : WX} {Φ : Fn} {shs : Nat → Nat → Shape} {x y : Expr} {a b : E} {pos : Pos}
/-! ### tuple(reversed(x)) -/
end
end G
set_option maxHeartbeats 1000000
namespace GX
open PySem PySem.Spec PyProof.Rows L2 PySem.W
/-! ### sorted(xs), xs a list of tuples of numbers -/
section
variable {X : Cx}
end
end GX
namespace GU
open PySem PySem.Spec PyProof.Rows L2
/-! ### set(t), t a tuple of tuples of numbers -/
section
variable {P : Program} {w : World} {A : Around} {E : Value → Shared → Prop} {s : Shared}
end
section
variable {X : Cx}
end
end GU
namespace G
open PySem PySem.Spec PyProof.Rows L2
variable [Tb]
section
variable {C : Cfg} {W : WX} {Φ : Fn} {shs : Nat → Nat → Shape} {x y : Expr} {a b : E} {pos : Pos}
/-! ### sorted(list of rows) -/
/-! ### len(set(tuple of rows)) -/
end
end G
set_option maxHeartbeats 1000000
namespace GK
open PySem PySem.Calls PyProof.Rows PySem.W
/-! ### sorted(xs, key=f), the calls of f with any state -/
section
variable {prog : Program} {w : World} {A : Around} {E : Value → Shared → Prop} {s : Shared} {a kS : Addr} {f : Value} {vs : List Value} {kz : List PyData} {e1 : Nat} {P : PySem.Fin → Shared → Prop}
end
end GK
set_option maxHeartbeats 1000000
namespace GK
open PySem PySem.Calls PyProof.Rows PySem.W
section
variable {prog : Program} {w : World} {A : Around} {E : Value → Shared → Prop} {s : Shared}
end
end GK
set_option maxHeartbeats 1000000
namespace GK
open PySem PySem.Spec PyProof.Rows L2 PySem.W
section
variable {X : Cx} {pins : List (Addr × Obj)} {σ : L2.St} {H : Hp} {s : Shared}
end
end GK
namespace G
open PySem PySem.Spec PyProof.Rows L2
variable [Tb]
section
variable {C : Cfg} {W : WX} {M H M1 H1 : Hp} {σ : L2.St} {nv nv1 : Nv} {Φ : Fn} {x : Expr} {a : E} {p pos : Pos}
/-! ### sorted(xs, key=f), f a def of the program -/
end
end G
namespace G
open PySem PySem.Spec PyProof.Rows L2
variable [Tb]
section
variable {C : Cfg} {W : WX} {M H M1 H1 : Hp} {σ σ' : L2.St} {nv nv1 : Nv} {Φ : Fn} {shs : Nat → Nat → Shape} {K : PySem.W.Frag}
/-! ### a comprehension over a list of one's own, which stays one's own -/
end
end G
namespace G
open PySem PySem.Spec PyProof.Rows L2
variable [Tb]
/-! ### calls with every keyword written; sorted(xs, reverse=True) -/
section
variable {C : Cfg} {W : WX} {Φ : Fn} {shs : Nat → Nat → Shape} {x : Expr} {a : E} {pos : Pos}
end
end G
namespace G
open PySem PySem.Spec PyProof.Rows L2
variable [Tb]
/-! ### a for over a list of one's own, which stays one's own -/
/-- the slot i is not stored to -/
def Cfg.hold (C : Cfg) (i : Nat) : Cfg := { C with pr := i :: C.pr, st := fun x => C.st x && !decide (C.N[i]? = some x) }
section
variable {C : Cfg} {W : WX} {M H M1 H1 : Hp} {σ σ' : L2.St} {nv nv1 : Nv} {Φ : Fn} {shs : Nat → Nat → Shape}
theorem PrOk.hold (po : PrOk C) {i : Nat} : PrOk (C.hold i) := fun x j hs hN hj => by
  obtain ⟨h1, h2⟩ := (Bool.and_eq_true _ _).mp hs
  rcases List.mem_cons.mp hj with e | e
  · subst e
    have hN : C.N[j]? = some x := hN
    simp [hN] at h2
  · exact po x j h1 hN e
theorem AtE.hold {X : Cx} (h : AtE C W X) (i : Nat) : AtE (C.hold i) W X :=
  ⟨h.prog, h.w, h.K, h.mg, h.base, h.N, h.sc, h.calm, h.room, h.nd, h.tk, fun x hx => h.fn x ((Bool.and_eq_true _ _).mp hx).1, h.cd⟩
theorem AtS.hold {X : Cx} (h : AtS C W X) (i : Nat) : AtS (C.hold i) W X := ⟨h.e.hold i, h.po, h.stk, h.fr, h.ex⟩
theorem FtOk.hold {ft : Nat → Option FnI} {T : ShT} (F : FtOk C Φ ft T) (i : Nat) : FtOk (C.hold i) Φ ft T := ⟨F.at_, F.sh⟩
theorem BltOk.hold (B : BltOk C) (i : Nat) : BltOk (C.hold i) := B
end
end G
namespace G
open PySem PySem.Spec PyProof.Rows L2
variable [Tb]
/-! ### cells: known for a call, and unknown again -/
open Classical in
/-- the heap without the addresses S -/
noncomputable def cutH (S : Addr → Prop) (H : Hp) : Hp := fun a => if S a then none else H a
def PinS (S : Addr → Prop) (M : Hp) : Prop := ∀ c, S c → ∃ ob, M c = some (.frz ob (.ext fun _ => True))
section
variable {S : Addr → Prop} {K : PySem.W.Frag} {M M' H H' : Hp} {h : Heap} {a : Addr} {P : Program} {w : World}
theorem cut_out (s : ¬ S a) : cutH S H a = H a := if_neg s
theorem cut_keep (p : PinS S H) {o : HO} (e : H a = some o) (n : ∀ ob, o ≠ .frz ob (.ext fun _ => True)) : cutH S H a = some o := by
  rw [cut_out]
  · exact e
  · intro s
    obtain ⟨ob, e2⟩ := p a s
    rw [e] at e2
    exact n ob (Option.some.inj e2)
theorem PinS.mono (p : PinS S M) (e : Same M M') : PinS S M' := fun c s => by
  obtain ⟨ob, h⟩ := p c s
  exact ⟨ob, e _ _ h⟩
theorem cut_sqn (p : PinS S M) {xs : List V} (q : GT.SqN K M a xs) : GT.SqN K (cutH S M) a xs := by
  rcases q with ⟨o, e, n⟩ | q
  · exact .inl ⟨o, cut_keep p e (fun ob z => by injection z with _ z; cases z), n⟩
  · exact .inr q
theorem cut_sql (p : PinS S M) {xs : List V} (q : SqL K M a xs) : SqL K (cutH S M) a xs := by
  rcases q with (q | ⟨o, q⟩) | q
  · exact .inl (.inl (cut_keep p q fun ob z => nomatch z))
  · exact .inl (.inr ⟨o, cut_keep p q fun ob z => by injection z with _ z; cases z⟩)
  · exact .inr q
mutual
theorem Rep.cut (p : PinS S M) : ∀ {d : D} {v : V}, Rep K M d v → Rep K (cutH S M) d v
  | .non, _, h => by simp only [Rep] at h ⊢; exact h
  | .bl _, _, h => by simp only [Rep] at h ⊢; exact h
  | .int _, _, h => by simp only [Rep] at h ⊢; exact h
  | .str _, _, h => by simp only [Rep] at h ⊢; exact h
  | .tup ds, _, h => by
    simp only [Rep] at h ⊢
    obtain ⟨a, vs, e1, e2, e3⟩ := h
    exact ⟨a, vs, e1, cut_sqn p e2, Reps.cut p e3⟩
  | .lst ds, _, h => by
    simp only [Rep] at h ⊢
    obtain ⟨a, vs, e1, e2, e3⟩ := h
    exact ⟨a, vs, e1, cut_keep p e2 (fun ob z => nomatch z), Reps.cut p e3⟩
  | .scr ns, _, h => by
    simp only [Rep] at h ⊢
    obtain ⟨a, e1, e2⟩ := h
    exact ⟨a, e1, cut_sql p e2⟩
  | .dct ks ds, _, h => by
    simp only [Rep] at h ⊢
    obtain ⟨a, vs, e1, e2, e3, e4⟩ := h
    exact ⟨a, vs, e1, cut_keep p e2 (fun ob z => nomatch z), e3, Reps.cut p e4⟩
theorem Reps.cut (p : PinS S M) : ∀ {ds : List D} {vs : List V}, Reps K M ds vs → Reps K (cutH S M) ds vs
  | [], _, h => by simp only [Reps] at h ⊢; exact h
  | d :: ds, _, h => by
    simp only [Reps] at h ⊢
    obtain ⟨v, vs', e1, e2, e3⟩ := h
    exact ⟨v, vs', e1, Rep.cut p e2, Reps.cut p e3⟩
end
end
section
variable {C : Cfg} {W : WX} {X : Cx} {pins : List (Addr × Obj)} {σ : L2.St} {H : Hp} {s : Shared} {S : Addr → Prop}
end
end G
namespace G
open PySem PySem.Spec PyProof.Rows L2 LamX
variable [Tb]
section
variable {X : Cx} {pins : List (Addr × Obj)} {σ : L2.St} {H : Hp} {s : Shared}
abbrev lamObj (qual : Str) (params : Arguments) (body : Expr) (scope : Scope) (clo : List (Str × Addr)) (pm : Value) (c' : Addr) (ctv : Value) : Obj := PySem.W.kla_obj "<lambda>" qual params body scope clo pm c' ctv
end
end G
namespace G
open PySem PySem.Spec PyProof.Rows L2 LamX
variable [Tb]
/-! ### lambdas called -/
structure LamOk (P : Program) (w : World) (K : PySem.W.Frag) (mg : Str → Option Value) (base : Heap) (k : Nat) (L : Lam) (n : Nat) (sp : Sp) : Prop where
  run : ∀ (A : Around) (outer : List Env) (s : Shared) (H : Hp) (f c' : Addr) (pm ctv : Value) (clo : List (Str × Addr)) (us : List Value) (vs vsC : List V) (Q : VK), Room k A → Env0 P w K mg base A outer s H →
    s.heap.get? f = some (lamObj L.qual L.params L.body L.scope clo pm c' ctv) → s.heap.CodeRec (.ref c') L.qual → NdefX.CellsAt clo L.caps (vsC.map some) s.heap H → Vals vs us → vs.length = n →
    sp (vs ++ vsC) H Q (fun _ _ _ => False) → codeAny (model P w) A (.call (.ref f) ⟨us, []⟩) (CR (L2.CX P w) outer P w H s Q fun _ _ _ => False) s
end G
namespace G
open PySem PySem.Spec PyProof.Rows L2 LamX
variable [Tb]
section
variable {S : Addr → Prop} {M H H' : Hp} {a : Addr}
end
section
variable {C : Cfg} {W : WX} {M H : Hp} {σ : L2.St} {nv : Nv} {Φ : Fn} {shs : Nat → Nat → Shape}
/-- what is known of the lambdas: how many arguments they take -/
structure LtOk (C : Cfg) (Φ : Fn) (lt : Nat → Option Nat) : Prop where
  at_ : ∀ k n, lt k = some n → ∃ L, Tb.lam k = some L ∧ LamOk C.P C.w C.K C.mg C.base C.k L n (spOf C Φ k (n + L.caps.length))
theorem LtOk.blk {lt : Nat → Option Nat} (F : LtOk C Φ lt) (s : Scope) : LtOk (C.blk s) Φ lt := ⟨F.at_⟩
theorem LtOk.hold {lt : Nat → Option Nat} (F : LtOk C Φ lt) (i : Nat) : LtOk (C.hold i) Φ lt := ⟨F.at_⟩
end
end G
namespace G
open PySem PySem.Spec PyProof.Rows L2 LamX
variable [Tb]
section
variable {C : Cfg} {W : WX} {M H : Hp} {σ : L2.St} {nv : Nv} {Φ : Fn} {shs : Nat → Nat → Shape} {K : PySem.W.Frag}
/-! ### arguments before a lambda -/
/-! ### slots in a row -/
def Sls (K : PySem.W.Frag) (M H : Hp) : List Sl → List V → Prop
  | [], vs => vs = []
  | s :: ss, vs => ∃ v vs', vs = v :: vs' ∧ SlR K M H s v ∧ (∀ f ds, s ≠ .lv f ds) ∧ Sls K M H ss vs'
theorem Sls.len : ∀ {ss : List Sl} {vs : List V}, Sls K M H ss vs → ss.length = vs.length
  | [], _, h => by have h : _ = [] := h; subst h; rfl
  | s :: ss, _, h => by
    obtain ⟨v, vs', rfl, _, _, h⟩ := h
    simp [h.len]
theorem Sls.get : ∀ {ss : List Sl} {vs : List V} {i : Nat} {s : Sl}, Sls K M H ss vs → ss[i]? = some s → ∃ v, vs[i]? = some v ∧ SlR K M H s v ∧ ∀ f ds, s ≠ .lv f ds
  | [], _, _, _, _, h => by simp at h
  | t :: ss, _, i, s, h, e => by
    obtain ⟨v, vs', rfl, h1, h2, h3⟩ := h
    cases i with
    | zero => cases e; exact ⟨v, rfl, h1, h2⟩
    | succ i => simpa using Sls.get h3 (by simpa using e)
theorem Sls.app : ∀ {ss ts : List Sl} {vs us : List V}, Sls K M H ss vs → Sls K M H ts us → Sls K M H (ss ++ ts) (vs ++ us)
  | [], _, _, _, h, h2 => by have h : _ = [] := h; subst h; exact h2
  | s :: ss, ts, _, us, h, h2 => by
    obtain ⟨v, vs', rfl, h1, h3, h4⟩ := h
    exact ⟨v, vs' ++ us, rfl, h1, h3, h4.app h2⟩
/-- the lambda's places in its maker -/
structure LamAt (C : Cfg) (L : Lam) (c P : Addr) (caps : List Nat) : Prop where
  cd : ∃ q, C.cd = some (.ref c, q) ∧ L.qual = q ++ "<lambda>"
  tb : TabB C.base C.mg c P
  mem : (P, L.qual) ∈ Tb.tabs
  uni : ∀ p ∈ Tb.tabs, p.1 = P → p.2 = L.qual
  dft : ∀ env, defaultsOf L.params env = ([], [])
  fr : ∀ y ∈ L.scope.names, y.2 = .free → y.1 ∈ L.caps
  frk : ∀ y ∈ L.caps, (y, NameKind.free) ∈ L.scope.names
  cel : ∀ y ∈ L.caps, C.sc.names.lookup y = some .cell ∧ C.st y = true
  at_ : caps.map (fun j => C.N[j]?) = L.caps.map some
end
section
variable {C : Cfg} {W : WX} {M H : Hp} {σ : L2.St} {nv : Nv} {Φ : Fn} {shs : Nat → Nat → Shape}
end
end G
namespace G
open PySem PySem.Spec PyProof.Rows L2 LamX
variable [Tb]
section
variable {C : Cfg} {W : WX} {M H : Hp} {σ : L2.St} {nv : Nv} {Φ : Fn} {shs : Nat → Nat → Shape}
end
end G
namespace G
open PySem PySem.Spec PyProof.Rows L2 LamX
/-! ### where a lambda stands in the text -/
section
variable {P : Program} {w : World} {K : PySem.W.Frag} {mg : Str → Option Value} {base : Heap} {k : Nat} {exA : Nat → Option Addr}
variable [Tb]
/-! ### calls that leave keywords out -/
/-- what a keyword that lacks stands for -/
def DefR (K : PySem.W.Frag) (d : D) (v : V) : Prop := ∀ M : Hp, Rep K M d v
inductive DefRs (K : PySem.W.Frag) : List D → List V → Prop where
  | nil : DefRs K [] []
  | cons {d v ds vs} (a : DefR K d v) (b : DefRs K ds vs) : DefRs K (d :: ds) (v :: vs)
end
end G
namespace G
open PySem PySem.Spec PyProof.Rows L2
open L2H (RoomH PinOk cxH inv_startH roomH_of)
variable [Tb]
/-! ### raise X('m') -/
structure RaiseOk (C : Cfg) (x : Str) (Ca : Addr) : Prop where
  ex : ∃ (B newId initId : String) (bm : List Value), ExcBaseFacts B newId initId bm ∧ PySem.W.excIn C.K Ca bm newId = true
  mg : C.mg x = some (.ref Ca)
  kp : PySem.W.keepIn C.K (.ref Ca) = true
  s1 : PySem.W.subIn C.K (.ref Ca) (.type "BaseException") = some true
  s2 : PySem.W.typeIn C.K (.ref Ca) = some (.type "type")
section
variable {C : Cfg} {W : WX} {M H M1 H1 : Hp} {σ σ' : L2.St} {nv nv1 : Nv} {Φ : Fn} {shs : Nat → Nat → Shape}
theorem sndS_rse {x m : Str} {j c : Nat} {p p2 pos pos2 : Pos} {Ca : Addr} (R : RaiseOk C x Ca) (hex : C.exA c = some Ca) (hg : isGl C.sc x = true) (hdb : (x == ("__debug__" : Str)) = false) : SndS C W (.Raise (some (.Call (.Name x p) [.Constant (.str m) j p2] [] pos)) none pos2) (evS Φ shs (.rse c)) := by
  intro M H σ nv D st hd
  obtain ⟨B, newId, initId, bm, F, q⟩ := R.ex
  refine tS.by (fun X hX => ps_raise hX.e.calm hX.e.tk (pmk_own F (by rw [hX.e.K]; exact q) (by rw [hX.e.mg]; exact R.mg) (by rw [hX.e.K]; exact R.kp) (raises_own (by rw [hX.e.K]; exact R.s1) (by rw [hX.e.K]; exact R.s2)) (gl_of hX.e hg) hdb)) ?_
  rw [evS] at hd
  exact hd σ _ none M H (Pk.refl C σ) (Step.refl _ _ _) st ⟨Ca, hex, rfl, rfl, rfl⟩
end
/-! ### isinstance of a pinned exception -/
theorem call_isP {X : Cx} {a D : Addr} {oe : Obj} (C : ExcC X.K D) (hz : Zc (.ref D) none oe) (hf : ∃ vs, oe.data = .fields vs) (hp : (a, oe) ∈ X.pn) : CallR X (.builtin "isinstance") (rIsE X.K D a) := by
  intro pins s σ H xs us Q I r h
  obtain ⟨c, cv, b, rfl, hcv, e, q⟩ := h
  cases r with
  | cons rx rr =>
    cases rr with
    | cons rt rr =>
      cases rr
      cases rx
      have ec := hcv _ rt
      subst ec
      obtain ⟨hget, _⟩ := I.pin (a, oe) (List.mem_append.mpr (.inl hp))
      obtain ⟨vs, hv⟩ := hf
      have J : PySem.W.InstAt s.heap a oe D none := by
        obtain ⟨oc, od, oda, osl⟩ := oe
        obtain ⟨h1, h2⟩ := hz
        dsimp only at h1 h2 hv
        subst h1 h2 hv
        exact ⟨hget, rfl, rfl, trivial⟩
      exact PySem.W.kia_one (PySem.W.handS_kitx_exc C.hg C.hk C.hs C.hd C.ha C.hn C.ht C.hm) I.kIn J e (fun z => nomatch z) fun tk => ⟨.bl b, H, I.kept (t' := tk) fun _ _ z => z, rfl, q⟩
/-- isinstance(e, c) -/
def tIsE (i : Nat) (a : Addr) (b : Bool) : TE := fun σ H Q => σ[i]? = some (some (.ref a)) ∧ Q (.bl b) H
theorem pe_isE {X : Cx} {a D : Addr} {oe : Obj} {i : Nat} {n cn : Str} {cv : Value} {c : V} {b : Bool} {p p2 p3 pos : Pos} (EC : ExcC X.K D) (hz : Zc (.ref D) none oe) (hf : ∃ vs, oe.data = .fields vs) (hp : (a, oe) ∈ X.pn)
    (hg : Gl X "isinstance") (hm : X.mg "isinstance" = none) (hN : X.N[i]? = some n) (hv : Vis X.env.scope n) (hd : (n == ("__debug__" : Str)) = false) (hcd : (n == ("__classdict__" : Str)) = false) (hc : PE X (.Name cn p3) (tC c)) (hcv : ∀ u, RelV c u → u = cv) (hk : PySem.W.kitOne X.K (.ref D) cv = some b) :
    PE X (.Call (.Name "isinstance" p) [.Name n p2, .Name cn p3] [] pos) (tIsE i a b) := by
  have := pe_callB (r := rIsE X.K D a) (p := p) (pos := pos) (call_isP EC hz hf hp) hg hm (by decide +kernel) (pa_cons (pe_var (pos := p2) hN hv hd hcd) (pa_cons hc pa_nil rfl) rfl) (by decide +kernel) (by decide +kernel) rfl rfl
  refine ⟨fun pins s σ H Q I h => this.run pins s σ H Q I ?_⟩
  exact ⟨_, h.1, c, cv, b, rfl, hcv, hk, h.2⟩
/-! ### a def that is called in an except suite, the exception pinned -/
structure FnP (P : Program) (w : World) (K : PySem.W.Frag) (mg : Str → Option Value) (base : Heap) (CX : CXT) (k : Nat) (f : Addr) (fd : FuncData) (ps : List Str) (sp : Addr × Obj → Sp) : Prop where
  len : ∀ p vs H Q E, sp p vs H Q E → vs.length = ps.length
  run : ∀ (A : Around) (outer : List Env) (s : Shared) (H : Hp) (args : Args) (us : List Value) (vs : List V) (Q : VK) (E : XK) (p : Addr × Obj), RoomH k A → PinOk outer H s p → Env0 P w K mg base A outer s H → BindsTo s fd args (ps.zip us) → Vals vs us → sp p vs H Q E →
    codeAny (model P w) A (.call (.ref f) args) (CR CX outer P w H s Q E) s
theorem fn_ofP {CX : CXT} {P : Program} {w : World} {K : PySem.W.Frag} {mg : Str → Option Value} {base : Heap} {k : Nat} {f : Addr} {name qual : Str} {params : Arguments} {body : List Stmt} {scope : Scope} {dV kV doc pm cdv ct oc : Value} {an od : Option Addr}
    {osl : Array (Option Value)} {N ps : List Str} {sp : Addr × Obj → Sp} (lk : K.lookup f = some ⟨oc, od, .func (PySem.W.fnOf name qual params body scope dV kV doc pm an cdv ct), osl⟩) (hcd : PySem.W.codeIn K cdv qual = true) (S : FnScope N ps scope)
    (len : ∀ p vs H Q E, sp p vs H Q E → vs.length = ps.length)
    (hbody : ∀ (A : Around) (outer : List Env) (s : Shared) (H : Hp) (vs : List V) (Q : VK) (E : XK) (p : Addr × Obj), sp p vs H Q E →
      ∃ t, PSs (cxH CX P w K mg base N qual scope f cdv A outer s H E p) body t ∧ t { nx := fun _ H' => Q .non H', rt := Q } (L2.start N vs) H) :
    FnP P w K mg base CX (k + 1) f (PySem.W.fnOf name qual params body scope dV kV doc pm an cdv ct) ps sp := by
  refine ⟨len, fun A outer s H args us vs Q E p hr hpin e0 hb r hsp => ?_⟩
  have hl := len _ _ _ _ _ hsp
  have KX : K.In s.heap := e0.mod.kin.keeps fun b o e => (e0.bs b o e).1
  have lim : s.heap.NoLimit := e0.mod.nolimit.keeps fun b o e => (e0.bs b o e).1
  have hkind : ∀ y ∈ ps.zip us, scope.names.lookup y.1 = some .local ∨ (scope.names.lookup y.1 = some .cell ∧ ((cellsFrom (s.heap.objs.size + 1) scope.names []).lookup y.1).isSome = true) := fun ⟨n, v⟩ hy => by
    rcases S.par n (List.of_mem_zip hy).1 with q | q
    · exact .inl q
    · exact .inr ⟨q, PySem.W.cellsFrom_some _ _ _ (.inl q)⟩
  refine codeAny_call_function hr.depth (KX _ _ lk) rfl S.co S.gen rfl (PySem.W.codeRec_of KX hcd) (hb _ _ _ _ ?_)
  refine wpAny_newFunctionEnv_cells S.kind hkind fun env he s1 x => ?_
  subst he
  refine ⟨lim.keeps x.toInCall.keep, codeAny_func ?_⟩
  obtain ⟨t, ht, hq⟩ := hbody A outer s H vs Q E p hsp
  have I : Inv (cxH CX P w K mg base N qual scope f cdv A outer s H E p) [] (L2.start N vs) H s1 := inv_startH S hpin e0 hl r x
  refine wpAny_mono (ht.run [] s1 (L2.start N vs) H _ I hq) (fun fl s' hs => ?_) fun e s' hs => hs
  have fin : ∀ {σ' : L2.St} {H' : Hp} {v : V} {u : Value}, Inv (cxH CX P w K mg base N qual scope f cdv A outer s H E p) [] σ' H' s' → RelV v u → Q v H' → CE outer P w H s Q u s' :=
    fun {σ' H' v u} J rv q => ⟨v, H', J.os, J.bare, J.base, J.hok, rv, q⟩
  cases fl with
  | ret u =>
    obtain ⟨v, σ', H', J, rv, q⟩ := hs
    exact fin J rv q
  | next =>
    obtain ⟨σ', H', J, q⟩ := hs
    exact fin (v := V.non) (u := Value.none) J rfl q
  | brk =>
    obtain ⟨_, _, _, q⟩ := hs
    exact False.elim q
  | cont =>
    obtain ⟨_, _, _, q⟩ := hs
    exact False.elim q
section
variable {X : Cx} {CX : CXT} {k : Nat} {f : Addr} {fd : FuncData} {ps : List Str} {sp : Addr × Obj → Sp} {E : L2.St → XK} {x : Str} {q pos : Pos} {e : Expr} {es : List Expr} {t : TA} {p : Addr × Obj}
theorem run_fnP {pins : List (Addr × Obj)} {σ : L2.St} {H : Hp} {s : Shared} {Q : VK} {us : List Value} {vs : List V} (F : FnP X.prog X.w X.K X.mg X.base CX k f fd ps sp) (hr : RoomH k X.A) (hp : p ∈ X.pn) (hb : Binds X.K fd ps []) (hx : PassesAt CX X σ (E σ))
    (I : Inv X pins σ H s) (r : Vals vs us) (h : sp p vs H Q (E σ)) : wpAny (model X.prog X.w) X.A (call (.ref f) us) (EP X pins σ Q) X.xe s := by
  have hl : us.length = ps.length := by rw [← r.length]; exact F.len _ _ _ _ _ h
  have b := hb s us I.kIn (by rw [List.append_nil]; exact hl)
  rw [List.append_nil] at b
  have P1 := I.pin p (List.mem_append_left _ hp)
  have hpin : PinOk X.stack H s p := ⟨P1.1, P1.2.1, fun hm => (List.mem_cons.mp (I.stkSub p.1 hm)).elim P1.2.2.1 P1.2.2.2.1, P1.2.2.2.2⟩
  refine wpAny_call (codeAny_mono (F.run X.A X.stack s H ⟨us, []⟩ us vs Q (E σ) p hr hpin I.env0 b r h) fun r s' hq => ?_)
  cases r with
  | error e => exact hx pins H s e s' I hq
  | ok fl =>
    cases fl with
    | ret u => exact I.after hq
    | next => exact False.elim hq
    | brk => exact False.elim hq
    | cont => exact False.elim hq
theorem pe_callP (F : FnP X.prog X.w X.K X.mg X.base CX k f fd ps sp) (hr : RoomH k X.A) (hp : p ∈ X.pn) (hg : Gl X x) (hm : X.mg x = some (.ref f)) (hk : PySem.W.keepIn X.K (.ref f) = true) (hb : Binds X.K fd ps []) (hx : ∀ σ, PassesAt CX X σ (E σ))
    (ha : PA X (e :: es) t) (hdb : (x == ("__debug__" : Str)) = false) (he : starEach (e :: es) X.env = (false, eval e X.env) :: starEach es X.env := by rfl) (hpl : (backTo pos (starEach es X.env)).any (·.1) = false := by rfl) :
    PE X (.Call (.Name x q) (e :: es) [] pos) (tCallS (sp p) E t) := by
  refine ⟨fun pins s σ H Q I h => ?_⟩
  refine wpAny_Call_Name_kw (ld_glob I hg hm ?_ hdb)
  refine PySem.W.callWith_K (h₀ := X.base) I.ok.mod.kin hk (thn (ha.run pos pins s σ H _ I h) fun us s1 ⟨vs, H1, I1, r, q⟩ => ⟨I1.kIn, ?_⟩) he hpl
  exact run_fnP F hr hp hb (hx σ) I1 r q
end
/-! ### the body of the def that judges an exception -/
/-- the context of that body -/
structure SX (X : Cx) (a D : Addr) : Prop where
  oe : ∃ oe, (a, oe) ∈ X.pn ∧ Zc (.ref D) none oe ∧ ∃ vs, oe.data = .fields vs
  ec : ExcC X.K D
  gi : Gl X "isinstance"
  mi : X.mg "isinstance" = none
  nn : X.N = ([("e" : Str), ("found" : Str)] : List Str)
  nd : X.N.Nodup
  ve : Vis X.env.scope "e"
  vf : Vis X.env.scope "found"
  lf : Loc X.env.scope "found"
  lk : X.env.scope.names.lookup ("found" : Str) = some NameKind.local
/-- a class by its name -/
def ClsAt (X : Cx) (cn : Str) (cv : Value) : Prop := (cn == ("__debug__" : Str)) = false ∧ Gl X cn ∧ ((∃ Ca, X.mg cn = some (.ref Ca) ∧ cv = .ref Ca) ∨ (X.mg cn = none ∧ ∃ T, bootBuiltins cn = some (.type T) ∧ cv = .type T ∧ cn ≠ "__name__"))
/-- what is known between its rows -/
def InvF (a : Addr) (H0 : Hp) (bs : List Bool) (σ : L2.St) (H : Hp) : Prop := σ.length = 2 ∧ σ[0]? = some (some (.ref a)) ∧ (∃ l, σ[1]? = some (some (.ref l)) ∧ H l = some (.lst (bs.map V.bl))) ∧ ∀ b o, H0 b = some o → H b = some o
section
variable {X : Cx} {a D : Addr} {cn : Str} {cv : Value} {b b1 b2 b3 : Bool} {p p2 p3 pos : Pos} {x y z : Expr} {H0 : Hp} {bs : List Bool}
theorem pe_isS (S : SX X a D) (hc : ClsAt X cn cv) (hk : PySem.W.kitOne X.K (.ref D) cv = some b) : PE X (.Call (.Name "isinstance" p) [.Name "e" p2, .Name cn p3] [] pos) (tIsE 0 a b) := by
  obtain ⟨oe, h1, h2, h3⟩ := S.oe
  obtain ⟨hdb, hg, ⟨Ca, hm, rfl⟩ | ⟨hm, T, hv, rfl, hn⟩⟩ := hc
  · exact pe_isE S.ec h2 h3 h1 S.gi S.mi (by rw [S.nn]; rfl) S.ve (by decide) (by decide) (pe_glob (v := .ref Ca) hg hm rfl hdb) (fun u r => r) hk
  · exact pe_isE S.ec h2 h3 h1 S.gi S.mi (by rw [S.nn]; rfl) S.ve (by decide) (by decide) (pe_bltn (v := .ty T) hg hm hv rfl hn hdb) (fun u r => r) hk
theorem inv_put {σ : L2.St} {H H2 : Hp} {l : Addr} {cs : List Bool} (h : σ.length = 2 ∧ σ[0]? = some (some (.ref a))) (e : ∀ b o, H0 b = some o → H b = some o) (n : H l = none) (h2 : H2 = upd H l (.lst (cs.map V.bl))) : InvF a H0 cs (σ.set 1 (some (.ref l))) H2 := by
  subst h2
  refine ⟨by rw [List.length_set]; exact h.1, by rw [List.getElem?_set_ne (by decide)]; exact h.2, ⟨l, by rw [List.getElem?_set_self (by rw [h.1]; decide)], upd_same⟩, fun b o q => ?_⟩
  rw [upd_ne (ne_of_none (e b o q) n)]
  exact e b o q
/-- found = [..] -/
theorem ps_first (S : SX X a D) (h1 : PE X x (tIsE 0 a b1)) (h2 : PE X y (tIsE 0 a b2)) (h3 : PE X z (tIsE 0 a b3)) (n1 : noStar x = true) (n2 : noStar y = true) (n3 : noStar z = true) (hs : swapsWith (.List [x, y, z] p2) (some (.Name "found" p)) pos.line X.env = pure false) :
    PS X (.Assign [.Name "found" p] (.List [x, y, z] p2) pos) (fun D σ H => (σ.length = 2 ∧ σ[0]? = some (some (.ref a))) ∧ (∀ b o, H0 b = some o → H b = some o) ∧ ∀ σ' H', InvF a H0 [b1, b2, b3] σ' H' → D.nx σ' H') := by
  have := ps_set (pos := pos) (pos' := p) (i := 1) S.nd (by rw [S.nn]; rfl) S.lf (pe_lst (pos := p2) (pa_cons h1 (pa_cons h2 (pa_cons h3 pa_nil (star_cons n3 _ _)) (star_cons n2 _ _)) (star_cons n1 _ _))) hs (.inr S.lk)
  refine ⟨fun pins s σ H D I h => this.run pins s σ H D I ?_⟩
  obtain ⟨g, e, k⟩ := h
  refine ⟨g.2, g.2, g.2, by simp [sizeLine_eq], fun l hl => ?_⟩
  exact k _ _ (inv_put g e hl rfl)
theorem cat_ok {L : Expr} {cs : List Bool} {te : TE} (S : SX X a D) (hL : PE X L te) (hte : ∀ σ H Q, σ[0]? = some (some (.ref a)) → (∀ l, H l = none → Q (.ref l) (upd H l (.lst (cs.map V.bl)))) → te σ H Q) (hz : bs.length + cs.length ≤ 100) (hs : swapsWith (.BinOp (.Name "found" p3) .Add L p2) (some (.Name "found" p)) pos.line X.env = pure false) :
    PS X (.Assign [.Name "found" p] (.BinOp (.Name "found" p3) .Add L p2) pos) (fun D σ H => InvF a H0 bs σ H ∧ ∀ σ' H', InvF a H0 (bs ++ cs) σ' H' → D.nx σ' H') := by
  have := ps_set (pos := pos) (pos' := p) (i := 1) S.nd (by rw [S.nn]; rfl) S.lf (pe_op (pos := p2) op_cat (pe_var (pos := p3) (i := 1) (x := "found") (by rw [S.nn]; rfl) S.vf) hL) hs (.inr S.lk)
  refine ⟨fun pins s σ H D I h => this.run pins s σ H D I ?_⟩
  obtain ⟨⟨h1, h2, ⟨l, h3, h4⟩, h5⟩, k⟩ := h
  refine ⟨_, h3, hte σ H _ h2 fun l2 n2 => ?_⟩
  have hne : l ≠ l2 := ne_of_none h4 n2
  refine ⟨l, l2, _, _, rfl, rfl, by rw [upd_ne hne]; exact h4, upd_same, by rw [List.length_map, List.length_map, sizeLine_eq]; omega, fun l3 n3 => ?_⟩
  refine k _ _ (inv_put ⟨h1, h2⟩ (H := upd H l2 (.lst (cs.map V.bl))) (fun b o q => ?_) n3 (by rw [List.map_append]))
  rw [upd_ne (ne_of_none (h5 b o q) n2)]
  exact h5 b o q
theorem ps_more3 (S : SX X a D) (h1 : PE X x (tIsE 0 a b1)) (h2 : PE X y (tIsE 0 a b2)) (h3 : PE X z (tIsE 0 a b3)) (n1 : noStar x = true) (n2 : noStar y = true) (n3 : noStar z = true) (hz : bs.length ≤ 50) {pl : Pos} (hs : swapsWith (.BinOp (.Name "found" p3) .Add (.List [x, y, z] pl) p2) (some (.Name "found" p)) pos.line X.env = pure false) :
    PS X (.Assign [.Name "found" p] (.BinOp (.Name "found" p3) .Add (.List [x, y, z] pl) p2) pos) (fun D σ H => InvF a H0 bs σ H ∧ ∀ σ' H', InvF a H0 (bs ++ [b1, b2, b3]) σ' H' → D.nx σ' H') :=
  cat_ok S (pe_lst (pos := pl) (pa_cons h1 (pa_cons h2 (pa_cons h3 pa_nil (star_cons n3 _ _)) (star_cons n2 _ _)) (star_cons n1 _ _))) (fun σ H Q g k => ⟨g, g, g, by simp [sizeLine_eq], fun l hl => k l hl⟩) (by simp; omega) hs
theorem ps_more1 (S : SX X a D) (h1 : PE X x (tIsE 0 a b1)) (n1 : noStar x = true) (hz : bs.length ≤ 50) {pl : Pos} (hs : swapsWith (.BinOp (.Name "found" p3) .Add (.List [x] pl) p2) (some (.Name "found" p)) pos.line X.env = pure false) :
    PS X (.Assign [.Name "found" p] (.BinOp (.Name "found" p3) .Add (.List [x] pl) p2) pos) (fun D σ H => InvF a H0 bs σ H ∧ ∀ σ' H', InvF a H0 (bs ++ [b1]) σ' H' → D.nx σ' H') :=
  cat_ok S (pe_lst (pos := pl) (pa_cons h1 pa_nil (star_cons n1 _ _))) (fun σ H Q g k => ⟨g, by simp [sizeLine_eq], fun l hl => k l hl⟩) (by simp; omega) hs
theorem cnt_true (bs : List Bool) : (bs.map V.bl).countP (fun z => eqV z (.bl true)) = bs.count true := by
  rw [List.countP_map, List.count_eq_countP]
  refine List.countP_congr fun b _ => ?_
  cases b <;> simp [Function.comp, eqV]
theorem flat_bls (bs : List Bool) : (bs.map V.bl).all flatV = true := List.all_eq_true.mpr fun v hv => by
  obtain ⟨b, _, rfl⟩ := List.mem_map.mp hv
  rfl
/-- return A and B and (found.count(True) == 1) -/
theorem ps_last (S : SX X a D) (h1 : PE X x (tIsE 0 a true)) (h2 : PE X y (tIsE 0 a true)) {pm pa pc pt po p1 : Pos} {j jt : Nat} (hbs : bs.count true = 1) (hl : (pa.endLine == pm.line) = true) :
    PS X (.Return (some (.BoolOp .And [x, y, .Compare (.Call (.Attribute (.Name "found" pc) "count" pa) [.Constant (.bool true) jt pt] [] pm) [.Eq] [.Constant (.int 1) j p1] po] p)) pos) (fun D σ H => InvF a H0 bs σ H ∧ ∀ H', (∀ b o, H0 b = some o → H' b = some o) → D.rt (.bl true) H') := by
  have hcount := pe_bm (X := X) (cpos := pm) (apos := pa) PySem.F.plainAttrs_list PySem.F.slot_list_count PySem.F.type_list_count mt_count' (pe_var (pos := pc) (i := 1) (x := "found") (by rw [S.nn]; rfl) S.vf) (pa_cons (pe_bl (b := true) (pos := pt) (j := jt)) pa_nil) rfl rfl hl rfl rfl
  have := ps_ret (pos := pos) (pe_and (pos := p) h1 (pe_and (pos := p) h2 (pe_one (pos := p) (op := .And) (pe_cmpR (op := .Eq) (pos := po) op_eq hcount (pe_int (pos := p1) (j := j) (i := 1)) rfl))))
  refine ⟨fun pins s σ H D I h => this.run pins s σ H D I ?_⟩
  obtain ⟨⟨g1, g2, ⟨l, g3, g4⟩, g5⟩, k⟩ := h
  refine ⟨g2, true, rfl, ?_⟩
  rw [if_pos rfl]
  refine ⟨g2, true, rfl, ?_⟩
  rw [if_pos rfl]
  have hS : SqL X.K H l (bs.map V.bl) := SqL.of g4
  refine ⟨_, g3, .inl ⟨rfl, _, hS⟩, l, _, _, rfl, rfl, hS, rfl, flat_bls bs, ?_⟩
  rw [cnt_true, hbs]
  exact ⟨rfl, k H g5⟩
end
/-! ### try: .. except C as e: return _law_single(e) -/
def exOf (a : Addr) : Nat → Option Addr := fun i => if i = 0 then some a else none
/-- what that def promises -/
def spS (D : Addr) (p : Addr × Obj) : Sp := fun vs H Q _ => vs = [.ref p.1] ∧ Zc (.ref D) none p.2 ∧ (∃ vs, p.2.data = .fields vs) ∧ ∀ H', (∀ b o, H b = some o → H' b = some o) → Q (.bl true) H'
structure SglOk (C : Cfg) (c : Nat) (cn : Str) : Prop where
  ex : ∃ Da, C.exA c = some Da ∧ C.mg cn = some (.ref Da) ∧ PySem.W.exmOne C.K (.ref Da) (.ref Da) = some true ∧
    ∃ f fd, C.mg "_law_single" = some (.ref f) ∧ PySem.W.keepIn C.K (.ref f) = true ∧ L2.Binds C.K fd [("e" : Str)] [] ∧ FnP C.P C.w C.K C.mg C.base (L2.CX C.P C.w) 1 f fd [("e" : Str)] (spS Da)
theorem single_ok {P : Program} {w : World} {K : PySem.W.Frag} {mg : Str → Option Value} {base : Heap} {k : Nat} {x qual : Str} {st : Stmt} {f D : Addr} {fd : FuncData} (F : Fun K x qual st f fd) (S : FnScope [("e" : Str), ("found" : Str)] [("e" : Str)] (defScope st)) (ec : ExcC K D)
    (gi : isGl (defScope st) "isinstance" = true) (mi : mg "isinstance" = none) (lk : (defScope st).names.lookup ("found" : Str) = some NameKind.local) (le : (defScope st).names.lookup ("e" : Str) = some NameKind.local)
    (hb : ∀ (X : Cx) (a : Addr) (H : Hp), SX X a D → X.env.scope = defScope st → X.mg = mg → X.K = K → ∃ t, PSs X (defBody st) t ∧ ∀ (σ : L2.St) (Q : VK) (N : L2.St → Hp → Prop), σ.length = 2 → σ[0]? = some (some (.ref a)) → (∀ H', (∀ b o, H b = some o → H' b = some o) → Q (.bl true) H') → t { nx := N, rt := Q } σ H) :
    FnP P w K mg base (L2.CX P w) (k + 1) f fd [("e" : Str)] (spS D) := by
  obtain ⟨oc, od, kV, doc, pm, an, cdv, ct, osl, rfl, lk', hcd⟩ := F.ex
  refine fn_ofP lk' hcd S (fun p vs H Q E h => by rw [h.1]; rfl) fun A outer s H vs Q E p h => ?_
  obtain ⟨rfl, hz, hf, q⟩ := h
  have sx : SX (cxH (L2.CX P w) P w K mg base [("e" : Str), ("found" : Str)] qual (defScope st) f cdv A outer s H E p) p.1 D :=
    { oe := ⟨p.2, by show p ∈ [p]; simp, hz, hf⟩, ec := ec, gi := (by show PySem.Env.kindOf _ _ = _; unfold PySem.Env.kindOf; exact of_decide_eq_true gi), mi := mi, nn := rfl, nd := S.nd, ve := .inl le, vf := .inl lk, lf := .inl lk, lk := lk }
  obtain ⟨t, h1, h2⟩ := hb _ p.1 H sx rfl rfl rfl
  exact ⟨t, h1, h2 _ _ _ rfl rfl q⟩
section
variable {C : Cfg} {W : WX} {M H M1 H1 : Hp} {σ σ' : L2.St} {nv nv1 : Nv} {Φ : Fn} {shs : Nat → Nat → Shape}
theorem sndS_tryR {x : Expr} {e : E} {c i : Nat} {cn n : Str} {np p1 p3 p4 p5 p6 pos : Pos} (SG : SglOk C c cn) (hg : isGl C.sc cn = true) (hdb : (cn == ("__debug__" : Str)) = false) (hgs : isGl C.sc "_law_single" = true) (hi : C.N[i]? = some n) (hln : C.sc.names.lookup n = some NameKind.local) (hn1 : (n == ("__debug__" : Str)) = false) (hn2 : (n == ("__classdict__" : Str)) = false)
    (hip : (C.pr.contains i) = false) (hsw : ∀ env, swapsWith x none p1.line env = pure false) (h : ∀ W', SndE C W' x (evE Φ shs e)) :
    SndS C W (.Try [.Expr x p1] [.ExceptHandler (some (.Name cn np)) (some n) [.Return (some (.Call (.Name "_law_single" p3) [.Name n p4] [] p5)) p6] pos] [] [] pos2) (evS Φ shs (.tryR e c i)) := by
  intro M H σ nv D st hd
  obtain ⟨Da, hex, hmg, hxm, f, fd, hmf, hkf, hbf, FS⟩ := SG.ex
  have hip' : i ∉ C.pr := fun z => by
    have : C.pr.contains i = true := by simpa using z
    rw [hip] at this; cases this
  let ts : Addr → Value → Option Addr → TS := fun a cls d D σ H => cls = .ref Da ∧ d = none ∧ (∃ σ0 : L2.St, σ = List.set σ0 i (some (V.ref a))) ∧ ∀ H', (∀ b o, H b = some o → H' b = some o) → D.rt (.bl true) H'
  refine tS.by (t := fun D σ H => tDrop (tE C (wAs C.K (.ref Da) i ts W D) x) { D with nx := fun σ H => D.nx σ H } σ H) (fun X hX => ?_) ?_
  · have hK := hX.e.K
    have := ps_try_as (X := X) (x := cn) (n := n) (c := .ref Da) (i := i) (body := [.Expr x p1]) (suite := []) (b₀ := .Return (some (.Call (.Name "_law_single" p3) [.Name n p4] [] p5)) p6) (np := np) (pos := pos2) (pos' := pos) (tb := fun W' => tSeq (tDrop (tE C W' x)) tNext) (ts := ts) (Wout := W)
      hX.stk hX.fr hX.e.nd (by rw [hX.e.N]; exact hi) (by show X.env.kindOf n = _; unfold PySem.Env.kindOf; rw [hX.e.sc]; exact hln) ⟨gl_of hX.e hg, hdb, .inl (by rw [hX.e.mg]; exact hmg)⟩ hX.e.tk
      (fun W' pn xe tk po => pss_cons (ps_expr (PEo (X := X.tr pn xe) (C := C) (W := W') ⟨hX.e.prog, hX.e.w, hX.e.K, hX.e.mg, hX.e.base, hX.e.N, hX.e.sc, hX.e.calm, hX.e.room, hX.e.nd, tk, hX.e.fn, hX.e.cd⟩ x) (hsw _)) pss_nil) ?_
    · rw [hK] at this
      exact this
    · intro a oe cls d pn hz hf
      refine ⟨fun pins s σ H D I hts => ?_⟩
      obtain ⟨rfl, rfl, ⟨σ0, rfl⟩, q⟩ := hts
      have hσ : (σ0.set i (some (V.ref a)))[i]? = some (some (.ref a)) := by
        have h1 := I.len
        rw [List.length_set] at h1
        have h2 : X.N[i]? = some n := by rw [hX.e.N]; exact hi
        have h3 := (List.getElem?_eq_some_iff.mp h2).1
        exact List.getElem?_set_self (by rw [h1]; exact h3)
      have FX : FnP (X.suite a ((a, oe) :: pn)).prog (X.suite a ((a, oe) :: pn)).w (X.suite a ((a, oe) :: pn)).K (X.suite a ((a, oe) :: pn)).mg (X.suite a ((a, oe) :: pn)).base (L2.CX X.prog X.w) 1 f fd [("e" : Str)] (spS Da) := by
        show FnP X.prog X.w X.K X.mg X.base _ _ _ _ _ _
        rw [hX.e.prog, hX.e.w, hX.e.K, hX.e.mg, hX.e.base]
        exact FS
      have hr : L2H.RoomH 1 (X.suite a ((a, oe) :: pn)).A := (roomH_of (k := 1) (hX.e.room.mono (by omega)) : L2H.RoomH 1 X.A) |> fun r => ⟨r.dp, r.un⟩
      have pe := pe_callP (X := X.suite a ((a, oe) :: pn)) (p := (a, oe)) (E := fun _ _ _ _ => False) (q := p3) (pos := p5) FX hr (by show (a, oe) ∈ (a, oe) :: pn; simp) (show Gl X "_law_single" from gl_of hX.e hgs) (by show X.mg _ = _; rw [hX.e.mg]; exact hmf) (by show PySem.W.keepIn X.K _ = _; rw [hX.e.K]; exact hkf) (by show L2.Binds X.K _ _ _; rw [hX.e.K]; exact hbf)
        (fun σ pins H s e s' I c => (cx_no c).elim) (pa_cons (pe_var (X := X.suite a ((a, oe) :: pn)) (i := i) (x := n) (pos := p4) (by show X.N[i]? = _; rw [hX.e.N]; exact hi) (by show Vis X.env.scope n; rw [hX.e.sc]; exact .inl hln) hn1 hn2) pa_nil rfl) (by decide) rfl rfl
      refine (pss_cons (ps_ret (pos := p6) pe) pss_nil).run pins s _ H D I ?_
      exact ⟨_, hσ, rfl, hz, hf, q⟩
  · rw [evS] at hd
    refine h _ M H σ nv _ st ?_
    cases e1 : evE Φ shs e nv with
    | ok r nv1 =>
      rw [e1] at hd
      intro v M' H' s st' rr
      obtain ⟨M2, st2, rp, s2, _⟩ := freeze st' rr s
      exact hd σ M2 H' (Pk.refl C σ) s2 st2
    | exc c' as nv1 =>
      rw [e1] at hd
      dsimp only at hd
      intro cls d M' H' s st' ex
      split at hd
      · rename_i hc
        subst hc
        obtain ⟨a', h1, rfl, rfl, rfl⟩ := ex
        have : a' = Da := by rw [hex] at h1; exact (Option.some.inj h1).symm
        subst this
        refine ⟨true, hxm, fun _ a na => ⟨rfl, rfl, ⟨σ, rfl⟩, fun H2 hx => ?_⟩, fun z => by cases z⟩
        · have st2 : StR C.K M' H2 σ nv1 := st'.grow (Same.refl _) (fun a o h => hx a o h) (fun a o h => hx _ _ (st'.ext _ _ h)) (fun a h => (st'.own_at h).1)
          obtain ⟨w1, w2⟩ := st2.wiped [i]
          refine hd (wipe σ [i]) (.bl true) M' H2 ⟨wipe_length _ _, fun j hj => wipe_out' (by simp; rintro rfl; exact hip' hj)⟩ ?_ w1 (by simp [RR, Rep])
          have s2 : Step M' H' (Own σ nv1) M' H2 (Own σ nv1) := ⟨Same.refl _, fun a o h _ => hx a o h, fun a h => .inl h, fun a h => (by
            cases q : H' a with
            | none => rfl
            | some o => rw [hx _ _ q] at h; cases h), fun a o h => .inl h⟩
          exact (s.trans s2).less fun a h => h.elim (w2 a) False.elim
      · exact hd.elim
    | stuck => rw [e1] at hd; exact hd.elim
end
/-! ### what the program's classes must say -/
def veB : List Value := [.type "ValueError", .type "Exception", .type "BaseException", .type "object"]
def excChk (K : PySem.W.Frag) (xc : Addr) : Bool := PySem.W.excIn K xc veB "ValueError.__new__" && (PySem.W.keepIn K (.ref xc) && (decide (PySem.W.subIn K (.ref xc) (.type "BaseException") = some true) && (decide (PySem.W.typeIn K (.ref xc) = some (.type "type")) &&
  (decide (PySem.W.findIn K (.ref xc) "__getattribute__" = some (some (.builtin "BaseException.__getattribute__"))) && (decide (PySem.W.findIn K (.ref xc) "__getattr__" = some none) && (PySem.W.hasDictIn K xc && (decide (PySem.W.findIn K (.ref xc) "__class__" = some (some (.builtin "object.__class__"))) &&
  (decide (PySem.W.specialIn K (.builtin "object.__class__") "__get__" = some (some (.builtin "getset_descriptor.__get__"))) && (decide (PySem.W.takesIn K (.builtin "object.__class__") = some true) && (decide (PySem.W.mroIn K xc (.type "object") = some true) && decide (PySem.W.exmOne K (.ref xc) (.ref xc) = some true)))))))))))
section
variable {P : Program} {w : World} {K : PySem.W.Frag} {mg : Str → Option Value} {base : Heap} {xc : Addr}
theorem chk_raise (h : excChk K xc = true) {cn : Str} (m : mg cn = some (.ref xc)) (sc : Scope) (N : List Str) (pr : List Nat) (k : Nat) (exA : Nat → Option Addr) (cd : Option (Value × Str)) : RaiseOk (cfgOf P w K mg base sc N pr k exA cd) cn xc := by
  unfold excChk at h
  simp only [Bool.and_eq_true, decide_eq_true_eq] at h
  exact ⟨⟨_, _, _, _, PySem.F.excBase_ValueError, h.1⟩, m, h.2.1, h.2.2.1, h.2.2.2.1⟩
theorem chk_ec (h : excChk K xc = true) : ExcC K xc := by
  unfold excChk at h
  simp only [Bool.and_eq_true, decide_eq_true_eq] at h
  obtain ⟨_, _, h3, _, h5, h6, h7, h8, h9, h10, h11, _⟩ := h
  exact ⟨h5, h6, h3, h7, h8, h9, h10, h11⟩
theorem chk_exm (h : excChk K xc = true) : PySem.W.exmOne K (.ref xc) (.ref xc) = some true := by
  unfold excChk at h
  simp only [Bool.and_eq_true, decide_eq_true_eq] at h
  exact h.2.2.2.2.2.2.2.2.2.2.2
theorem clsAt_own {X : Cx} {sc : Scope} {cn : Str} {Ca : Addr} (hsc : X.env.scope = sc) (hmg : X.mg = mg) (d : (cn == ("__debug__" : Str)) = false) (g : isGl sc cn = true) (m : mg cn = some (.ref Ca)) : ClsAt X cn (.ref Ca) :=
  ⟨d, by show PySem.Env.kindOf _ _ = _; unfold PySem.Env.kindOf; rw [hsc]; exact of_decide_eq_true g, .inl ⟨Ca, by rw [hmg]; exact m, rfl⟩⟩
theorem clsAt_blt {X : Cx} {sc : Scope} {cn : Str} {T : String} (hsc : X.env.scope = sc) (hmg : X.mg = mg) (d : (cn == ("__debug__" : Str)) = false) (g : isGl sc cn = true) (m : mg cn = none) (hv : bootBuiltins cn = some (.type T)) (hn : cn ≠ "__name__") : ClsAt X cn (.type T) :=
  ⟨d, by show PySem.Env.kindOf _ _ = _; unfold PySem.Env.kindOf; rw [hsc]; exact of_decide_eq_true g, .inr ⟨by rw [hmg]; exact m, T, hv, rfl, hn⟩⟩
theorem sgl_mk {f : Addr} {fd : FuncData} {cn : Str} (h : excChk K xc = true) (m : mg cn = some (.ref xc)) (mf : mg "_law_single" = some (.ref f)) (kf : PySem.W.keepIn K (.ref f) = true) (b : L2.Binds K fd [("e" : Str)] []) (F : FnP P w K mg base (L2.CX P w) 1 f fd [("e" : Str)] (spS xc))
    (sc : Scope) (N : List Str) (pr : List Nat) (k : Nat) (cd : Option (Value × Str)) : SglOk (cfgOf P w K mg base sc N pr k (exOf xc) cd) 0 cn :=
  ⟨xc, rfl, m, chk_exm h, f, fd, mf, kf, b, F⟩
end
end G
namespace K28
open PySem PySem.Spec PyProof.Rows L2 G
abbrev tp (i : Nat) : Stmt := PySem.Challenge.pw_gazette_k28_inverse_edits.main.body.getD i (.Pass ⟨0, 0, 0, 0⟩)
def nms : List (Str × List Str) := [(("applies" : Str), (["lines", "edit"] : List Str)), (("end_of" : Str), (["edit"] : List Str)), (("in_order" : Str), (["edits"] : List Str)), (("apply_edits" : Str), (["lines", "edits"] : List Str)), (("line_origins" : Str), (["lines", "edits"] : List Str)), (("inverse_edits" : Str), (["edits"] : List Str)), (("_line_from" : Str), (["lines", "edits", "origin"] : List Str)), (("_law_tape" : Str), (["script"] : List Str)), (("_law_draw" : Str), (["tape", "many"] : List Str)), (("_law_same" : Str), (["actual", "expected"] : List Str)), (("_law_menu" : Str), (["tape"] : List Str)), (("_law_lines" : Str), (["tape", "menu", "most"] : List Str)), (("_law_row" : Str), (["tape", "menu"] : List Str)), (("_law_end" : Str), (["edit"] : List Str)), (("_law_ordered" : Str), (["edits"] : List Str)), (("_law_fits" : Str), (["lines", "edit"] : List Str)), (("_law_applied" : Str), (["lines", "edits"] : List Str)), (("_law_fit_edits" : Str), (["tape", "menu", "lines", "most", "room"] : List Str)), (("_law_loose_edits" : Str), (["tape", "menu", "lines", "most"] : List Str)), (("_law_spoilt" : Str), (["tape", "menu", "edits"] : List Str)), (("_law_wild_edits" : Str), (["tape", "menu", "most"] : List Str)), (("_law_some_edits" : Str), (["tape", "menu", "lines"] : List Str)), (("_law_refused" : Str), (["edits"] : List Str)), (("_law_due" : Str), (["edits"] : List Str)), (("law" : Str), (["script"] : List Str))]
def ft (fa : Nat → Addr) (fdd : Nat → FuncData) : Nat → Option FnI := fun i => (nms[i]?).map fun q => ⟨q.1, fa i, fdd i, q.2⟩
def tab : List (List (Nat × List Str × G.Shape)) := [([(2, [], [.inl 0, .inl 1])] : List (Nat × List Str × G.Shape)), ([(1, [], [.inl 0])] : List (Nat × List Str × G.Shape)), ([(1, [], [.inl 0])] : List (Nat × List Str × G.Shape)), ([(2, [], [.inl 0, .inl 1])] : List (Nat × List Str × G.Shape)), ([(2, [], [.inl 0, .inl 1])] : List (Nat × List Str × G.Shape)), ([(1, [], [.inl 0])] : List (Nat × List Str × G.Shape)), ([(3, [], [.inl 0, .inl 1, .inl 2])] : List (Nat × List Str × G.Shape)), ([(1, [], [.inl 0])] : List (Nat × List Str × G.Shape)), ([(2, [], [.inl 0, .inl 1])] : List (Nat × List Str × G.Shape)), ([(2, [], [.inl 0, .inl 1])] : List (Nat × List Str × G.Shape)), ([(1, [], [.inl 0])] : List (Nat × List Str × G.Shape)), ([(3, [], [.inl 0, .inl 1, .inl 2])] : List (Nat × List Str × G.Shape)), ([(2, [], [.inl 0, .inl 1])] : List (Nat × List Str × G.Shape)), ([(1, [], [.inl 0])] : List (Nat × List Str × G.Shape)), ([(1, [], [.inl 0])] : List (Nat × List Str × G.Shape)), ([(2, [], [.inl 0, .inl 1])] : List (Nat × List Str × G.Shape)), ([(2, [], [.inl 0, .inl 1])] : List (Nat × List Str × G.Shape)), ([(5, [], [.inl 0, .inl 1, .inl 2, .inl 3, .inl 4])] : List (Nat × List Str × G.Shape)), ([(4, [], [.inl 0, .inl 1, .inl 2, .inl 3])] : List (Nat × List Str × G.Shape)), ([(3, [], [.inl 0, .inl 1, .inl 2])] : List (Nat × List Str × G.Shape)), ([(3, [], [.inl 0, .inl 1, .inl 2])] : List (Nat × List Str × G.Shape)), ([(3, [], [.inl 0, .inl 1, .inl 2])] : List (Nat × List Str × G.Shape)), ([(1, [], [.inl 0])] : List (Nat × List Str × G.Shape)), ([(1, [], [.inl 0])] : List (Nat × List Str × G.Shape)), ([(1, [], [.inl 0])] : List (Nat × List Str × G.Shape))]
def tt : ShT := fun i j => (tab[i]?).bind fun q => q[j]?
abbrev s0 : Stmt := tp 22
abbrev n0 : List Str := ["lines", "edit", "position", "remove", "_", "end"]
def d0 : Df := ⟨6, [], [.asg (.three (.nm 2) (.nm 3) (.nm 4)) (.var 1), .asg (.nm 5) (.call 1 0 [.var 1]), .ret (.and_ (.op2 .ge (.var 2) (.int 0)) (.and_ (.op2 .le (.var 5) (.op1 .len (.var 0))) (.op2 .eq (.slc (.var 0) (.var 2) (.var 5)) (.var 3))))]⟩
abbrev s1 : Stmt := tp 23
abbrev n1 : List Str := ["edit", "position", "remove", "_"]
def d1 : Df := ⟨4, [], [.asg (.three (.nm 1) (.nm 2) (.nm 3)) (.var 0), .ret (.op2 .add (.var 1) (.op1 .len (.var 2)))]⟩
abbrev s2 : Stmt := tp 24
abbrev n2 : List Str := ["edits", "edit", "later"]
def d2 : Df := ⟨3, [], [.ret (.op1 .all (.comp (.two (.nm 1) (.nm 2)) .zip [.var 0, .slc (.var 0) (.int 1) (.non)] [] (.op2 .le (.call 1 0 [.var 1]) (.op2 .ix (.var 2) (.int 0))) [1, 2]))]⟩
abbrev s3 : Stmt := tp 25
abbrev n3 : List Str := ["lines", "edits", "origins", "origin"]
def d3 : Df := ⟨4, [], [.asg (.nm 2) (.call 4 0 [.var 0, .var 1]), .ife (.op1 .isN (.var 2)) [.ret (.non)] [], .ret (.op1 .tupl (.comp (.nm 3) .seq [.var 2] [] (.call 6 0 [.var 0, .var 1, .var 3]) [3]))]⟩
abbrev s4 : Stmt := tp 26
abbrev n4 : List Str := ["lines", "edits", "edit", "origins", "kept_from", "number", "index"]
def d4 : Df := ⟨7, [], [.ife (.or_ (.not_ (.op1 .truth (.call 2 0 [.var 1]))) (.not_ (.op1 .truth (.op1 .all (.comp (.nm 2) .seq [.var 1] [] (.call 0 0 [.var 0, .var 2]) [2]))))) [.ret (.non)] [], .asg (.nm 3) (.lst []), .asg (.nm 4) (.int 0), .kill [2, 5, 6], .for_ (.two (.nm 5) (.nm 2)) .enum [.var 1] [.expr (.mth .ext 3 [.comp (.nm 6) .rng [.var 4, .op2 .ix (.var 2) (.int 0)] [] (.tup [.str "kept", .var 6]) [6]]), .expr (.mth .ext 3 [.comp (.nm 6) .rng [.op1 .len (.op2 .ix (.var 2) (.int 2))] [] (.tup [.str "inserted", .var 5, .var 6]) [6]]), .asg (.nm 4) (.call 1 0 [.var 2]), .kill [2, 5, 6]], .expr (.mth .ext 3 [.comp (.nm 6) .rng [.var 4, .op1 .len (.var 0)] [] (.tup [.str "kept", .var 6]) [6]]), .ret (.op1 .tupl (.var 3))]⟩
abbrev s5 : Stmt := tp 27
abbrev n5 : List Str := ["edits", "inverse", "shift", "position", "remove", "insert"]
def d5 : Df := ⟨6, [], [.ife (.not_ (.op1 .truth (.call 2 0 [.var 0]))) [.rse 0] [], .asg (.nm 1) (.lst []), .asg (.nm 2) (.int 0), .kill [3, 4, 5], .for_ (.three (.nm 3) (.nm 4) (.nm 5)) .seq [.var 0] [.expr (.mth .app 1 [.tup [.op2 .add (.var 3) (.var 2), .var 5, .var 4]]), .aug 2 .add (.op2 .sub (.op1 .len (.var 5)) (.op1 .len (.var 4))), .kill [3, 4, 5]], .ret (.op1 .tupl (.var 1))]⟩
abbrev s6 : Stmt := tp 28
abbrev n6 : List Str := ["lines", "edits", "origin"]
def d6 : Df := ⟨3, [], [.ife (.op2 .eq (.op2 .ix (.var 2) (.int 0)) (.str "kept")) [.ret (.op2 .ix (.var 0) (.op2 .ix (.var 2) (.int 1)))] [], .ret (.op2 .ix (.op2 .ix (.op2 .ix (.var 1) (.op2 .ix (.var 2) (.int 1))) (.int 2)) (.op2 .ix (.var 2) (.int 2)))]⟩
abbrev s7 : Stmt := tp 30
abbrev n7 : List Str := ["script", "total", "cell"]
def d7 : Df := ⟨3, [], [.asg (.nm 1) (.int 7), .kill [2], .for_ (.nm 2) .seq [.var 0] [.asg (.nm 1) (.op2 .mod (.op1 .int (.op2 .add (.op2 .mul (.var 1) (.int 31)) (.op1 .abs (.op1 .int (.var 2))))) (.int 2147483647)), .kill [2]], .ret (.lst [.op1 .list (.var 0), .int 0, .int 0, .var 1])]⟩
abbrev s8 : Stmt := tp 31
abbrev n8 : List Str := ["tape", "many", "place", "number"]
def d8 : Df := ⟨4, [0], [.ife (.op2 .eq (.op2 .ix (.var 0) (.int 2)) (.int 0)) [.asg (.nm 2) (.op2 .ix (.var 0) (.int 1)), .asg (.nm 3) (.int 0), .ife (.op2 .lt (.var 2) (.op1 .len (.op2 .ix (.var 0) (.int 0)))) [.asg (.nm 3) (.op1 .abs (.op1 .int (.op2 .ix (.op2 .ix (.var 0) (.int 0)) (.var 2)))), .kill []] [.sti 0 (.int 3) (.op2 .mod (.op1 .int (.op2 .add (.op2 .add (.op2 .mul (.op2 .ix (.var 0) (.int 3)) (.int 48271)) (.var 2)) (.int 1))) (.int 2147483647)), .asg (.nm 3) (.op2 .ix (.var 0) (.int 3)), .kill []], .sti 0 (.int 1) (.op2 .add (.var 2) (.int 1)), .ife (.op2 .lt (.var 3) (.op2 .pow (.int 10) (.int 18))) [.asg (.nm 3) (.op2 .mod (.op1 .int (.op2 .add (.op2 .add (.op2 .mul (.var 3) (.int 48271)) (.op2 .mul (.var 2) (.int 69621))) (.int 5))) (.int 2147483647)), .asg (.nm 3) (.op2 .mod (.op1 .int (.op2 .mul (.var 3) (.int 69621))) (.int 2147483629)), .ret (.op2 .mod (.op1 .int (.var 3)) (.op2 .max (.var 1) (.int 1)))] [], .sti 0 (.int 2) (.var 3)] [], .asg (.nm 3) (.op2 .ix (.var 0) (.int 2)), .sti 0 (.int 2) (.op2 .fdiv (.var 3) (.op2 .max (.var 1) (.int 2))), .ret (.op2 .mod (.op1 .int (.var 3)) (.op2 .max (.var 1) (.int 1)))]⟩
abbrev s9 : Stmt := tp 32
abbrev n9 : List Str := ["actual", "expected", "k"]
def d9 : Df := ⟨3, [], [.ife (.op1 .isN (.var 1)) [.ret (.op1 .isN (.var 0))] [], .ife (.op1 .truth (.op1 (.isi 0) (.var 1))) [.ife (.or_ (.not_ (.op1 .truth (.op1 (.isi 0) (.var 0)))) (.op2 .ne (.op1 .len (.var 0)) (.op1 .len (.var 1)))) [.ret (.bl false)] [], .kill [2], .for_ (.nm 2) .rng [.op1 .len (.var 1)] [.ife (.not_ (.op1 .truth (.call 9 0 [.op2 .ix (.var 0) (.var 2), .op2 .ix (.var 1) (.var 2)]))) [.ret (.bl false)] [], .kill [2]], .ret (.bl true)] [], .ife (.op1 .truth (.op1 (.isi 1) (.var 1))) [.ret (.and_ (.op1 (.isi 1) (.var 0)) (.op2 .eq (.var 0) (.var 1)))] [], .ife (.op1 .truth (.op1 (.isi 2) (.var 1))) [.ret (.and_ (.op1 (.isi 2) (.var 0)) (.op2 .eq (.var 0) (.var 1)))] [], .ret (.and_ (.op1 (.isi 3) (.var 0)) (.and_ (.not_ (.op1 (.isi 1) (.var 0))) (.op2 .eq (.var 0) (.var 1))))]⟩
abbrev s10 : Stmt := tp 34
abbrev n10 : List Str := ["tape", "signs", "stem", "menu", "k", "line", "j"]
def d10 : Df := ⟨7, [0], [.asg (.nm 1) (.str " !\"#$&'()*+,-./0123456789:;<=>?@ABCDEFGHIJKLMNOPQRSTUVWXYZ[\\]^_`abcdefghijklmnopqrstuvwxyz{|}~"), .ife (.op2 .eq (.call 8 0 [.brw 0, .int 8]) (.int 0)) [.ret (.slc (.lst [.str "keep", .str "remove", .str "insert", .str "kept", .str "inserted", .str ""]) (.non) (.op2 .add (.int 3) (.call 8 0 [.brw 0, .int 4])))] [], .asg (.nm 2) (.op2 .ix (.lst [.str "", .str "", .str "section 12, part (b"]) (.call 8 0 [.brw 0, .int 3])), .asg (.nm 3) (.lst []), .kill [4, 5, 6], .for_ (.nm 4) .rng [.op2 .ix (.lst [.int 2, .int 2, .int 3, .int 3, .int 4, .int 5, .int 5, .int 12]) (.call 8 0 [.brw 0, .int 8])] [.asg (.nm 5) (.op2 .add (.var 2) (.op2 .ix (.var 1) (.call 8 0 [.brw 0, .op1 .len (.var 1)]))), .ife (.op2 .eq (.var 2) (.str "")) [.kill [4, 6], .for_ (.nm 6) .rng [.op2 .ix (.lst [.int 0, .int 0, .int 0, .int 1, .int 19, .call 8 0 [.brw 0, .int 20]]) (.call 8 0 [.brw 0, .int 6])] [.asg (.nm 5) (.op2 .add (.var 5) (.op2 .ix (.var 1) (.call 8 0 [.brw 0, .op1 .len (.var 1)]))), .kill [4, 6]], .kill [4, 6]] [.kill [4, 6]], .expr (.mth .app 3 [.var 5]), .kill [4, 5, 6]], .ife (.op2 .eq (.call 8 0 [.brw 0, .int 3]) (.int 0)) [.sti 3 (.int 0) (.str ""), .kill [1, 2, 4, 5, 6]] [.kill [1, 2, 4, 5, 6]], .ret (.mov 3)]⟩
abbrev s11 : Stmt := tp 35
abbrev n11 : List Str := ["tape", "menu", "most", "k"]
def d11 : Df := ⟨4, [0], [.ret (.op1 .tupl (.comp (.nm 3) .rng [.call 8 0 [.brw 0, .op2 .add (.var 2) (.int 1)]] [] (.op2 .ix (.var 1) (.call 8 0 [.brw 0, .op1 .len (.var 1)])) [3]))]⟩
abbrev s12 : Stmt := tp 36
abbrev n12 : List Str := ["tape", "menu"]
def d12 : Df := ⟨2, [0], [.ret (.call 11 0 [.brw 0, .var 1, .op2 .ix (.lst [.int 4, .int 12, .int 12, .int 36]) (.call 8 0 [.brw 0, .int 4])])]⟩
abbrev s13 : Stmt := tp 37
abbrev n13 : List Str := ["edit"]
def d13 : Df := ⟨1, [], [.ret (.op2 .add (.op2 .ix (.var 0) (.int 0)) (.op1 .len (.op2 .ix (.var 0) (.int 1))))]⟩
abbrev s14 : Stmt := tp 38
abbrev n14 : List Str := ["edits", "k"]
def d14 : Df := ⟨2, [], [.kill [1], .for_ (.nm 1) .rng [.int 1, .op1 .len (.var 0)] [.ife (.op2 .gt (.call 13 0 [.op2 .ix (.var 0) (.op2 .sub (.var 1) (.int 1))]) (.op2 .ix (.op2 .ix (.var 0) (.var 1)) (.int 0))) [.ret (.bl false)] [], .kill [1]], .ret (.bl true)]⟩
abbrev s15 : Stmt := tp 39
abbrev n15 : List Str := ["lines", "edit"]
def d15 : Df := ⟨2, [], [.ret (.and_ (.op2 .le (.call 13 0 [.var 1]) (.op1 .len (.var 0))) (.op2 .eq (.slc (.var 0) (.op2 .ix (.var 1) (.int 0)) (.call 13 0 [.var 1])) (.op2 .ix (.var 1) (.int 1))))]⟩
abbrev s16 : Stmt := tp 40
abbrev n16 : List Str := ["lines", "edits", "edit"]
def d16 : Df := ⟨3, [], [.ife (.not_ (.op1 .truth (.call 14 0 [.var 1]))) [.ret (.non)] [], .kill [2], .for_ (.nm 2) .seq [.var 1] [.ife (.not_ (.op1 .truth (.call 15 0 [.var 0, .var 2]))) [.ret (.non)] [], .kill [2]], .kill [2], .for_ (.nm 2) .rev [.var 1] [.asg (.nm 0) (.op2 .add (.op2 .add (.slc (.var 0) (.non) (.op2 .ix (.var 2) (.int 0))) (.op2 .ix (.var 2) (.int 2))) (.slc (.var 0) (.call 13 0 [.var 2]) (.non))), .kill [2]], .ret (.mov 0)]⟩
abbrev s17 : Stmt := tp 41
abbrev n17 : List Str := ["tape", "menu", "lines", "most", "room", "edits", "at", "k", "end", "insert"]
def d17 : Df := ⟨10, [0], [.asg (.nm 5) (.lst []), .asg (.nm 6) (.int 0), .kill [7, 8, 9], .for_ (.nm 7) .rng [.call 8 0 [.brw 0, .op2 .add (.var 3) (.int 1)]] [.asg (.nm 6) (.op2 .min (.op2 .add (.var 6) (.op2 .ix (.lst [.int 0, .int 0, .int 1, .int 3, .int 11]) (.call 8 0 [.brw 0, .int 5]))) (.op1 .len (.var 2))), .ife (.op2 .gt (.var 6) (.int 30)) [.kill [7, 8, 9], .brk] [], .asg (.nm 8) (.op2 .min (.op2 .add (.var 6) (.op2 .ix (.lst [.int 0, .int 0, .int 1, .int 2, .int 6]) (.call 8 0 [.brw 0, .int 5]))) (.op1 .len (.var 2))), .asg (.nm 9) (.call 11 0 [.brw 0, .var 1, .op2 .min (.op2 .ix (.lst [.int 0, .int 1, .int 2, .int 6]) (.call 8 0 [.brw 0, .int 4])) (.var 4)]), .expr (.mth .app 5 [.tup [.var 6, .slc (.var 2) (.var 6) (.var 8), .var 9]]), .asg (.nm 4) (.op2 .sub (.var 4) (.op1 .len (.var 9))), .asg (.nm 6) (.var 8), .kill [7, 8, 9]], .ret (.op1 .tupl (.var 5))]⟩
abbrev s18 : Stmt := tp 42
abbrev n18 : List Str := ["tape", "menu", "lines", "most", "edits", "k", "at", "end", "edit"]
def d18 : Df := ⟨9, [0], [.asg (.nm 4) (.lst []), .kill [5, 6, 7, 8], .for_ (.nm 5) .rng [.call 8 0 [.brw 0, .op2 .add (.var 3) (.int 1)]] [.asg (.nm 6) (.call 8 0 [.brw 0, .op2 .add (.op2 .min (.op1 .len (.var 2)) (.int 30)) (.int 1)]), .asg (.nm 7) (.op2 .min (.op2 .add (.var 6) (.op2 .ix (.lst [.int 0, .int 0, .int 1, .int 2, .int 3, .int 6]) (.call 8 0 [.brw 0, .int 6]))) (.op1 .len (.var 2))), .asg (.nm 8) (.tup [.var 6, .slc (.var 2) (.var 6) (.var 7), .call 11 0 [.brw 0, .var 1, .op2 .ix (.lst [.int 0, .int 1, .int 2, .int 6]) (.call 8 0 [.brw 0, .int 4])]]), .ife (.and_ (.op1 .truth (.var 4)) (.op2 .eq (.call 8 0 [.brw 0, .int 8]) (.int 0))) [.asg (.nm 8) (.op2 .ix (.var 4) (.call 8 0 [.brw 0, .op1 .len (.var 4)])), .kill [5, 6, 7]] [.kill [5, 6, 7]], .expr (.mth .app 4 [.var 8]), .kill [5, 6, 7, 8]], .ret (.op1 .tupl (.var 4))]⟩
abbrev s19 : Stmt := tp 43
abbrev n19 : List Str := ["tape", "menu", "edits", "k", "edit", "choice", "at", "j", "moved"]
def d19 : Df := ⟨9, [0], [.ife (.not_ (.op1 .truth (.var 2))) [.ret (.tup [.tup [.call 8 0 [.brw 0, .int 31], .call 11 0 [.brw 0, .var 1, .int 6], .call 11 0 [.brw 0, .var 1, .int 2]]])] [], .asg (.nm 3) (.call 8 0 [.brw 0, .op1 .len (.var 2)]), .asg (.nm 4) (.op2 .ix (.var 2) (.var 3)), .asg (.nm 5) (.call 8 0 [.brw 0, .int 6]), .ife (.and_ (.op2 .eq (.var 5) (.int 0)) (.op1 .truth (.op2 .ix (.var 4) (.int 1)))) [.asg (.nm 6) (.call 8 0 [.brw 0, .op1 .len (.op2 .ix (.var 4) (.int 1))]), .asg (.nm 4) (.tup [.op2 .ix (.var 4) (.int 0), .op2 .add (.op2 .add (.slc (.op2 .ix (.var 4) (.int 1)) (.non) (.var 6)) (.tup [.op2 .ix (.var 1) (.call 8 0 [.brw 0, .op1 .len (.var 1)])])) (.slc (.op2 .ix (.var 4) (.int 1)) (.op2 .add (.var 6) (.int 1)) (.non)), .op2 .ix (.var 4) (.int 2)])] [.ife (.op2 .eq (.var 5) (.int 1)) [.asg (.nm 4) (.tup [.op2 .max (.op2 .sub (.op2 .ix (.var 4) (.int 0)) (.int 1)) (.int 0), .op2 .ix (.var 4) (.int 1), .op2 .ix (.var 4) (.int 2)])] [.ife (.op2 .eq (.var 5) (.int 2)) [.asg (.nm 4) (.tup [.op2 .min (.op2 .add (.op2 .add (.op2 .ix (.var 4) (.int 0)) (.int 1)) (.call 8 0 [.brw 0, .int 3])) (.int 30), .op2 .ix (.var 4) (.int 1), .op2 .ix (.var 4) (.int 2)])] [.ife (.op2 .eq (.var 5) (.int 3)) [.asg (.nm 4) (.tup [.op2 .ix (.var 4) (.int 0), .slc (.op2 .add (.op2 .ix (.var 4) (.int 1)) (.tup [.op2 .ix (.var 1) (.call 8 0 [.brw 0, .op1 .len (.var 1)])])) (.non) (.int 6), .op2 .ix (.var 4) (.int 2)])] [.ife (.and_ (.op2 .eq (.var 5) (.int 4)) (.op2 .lt (.op1 .len (.var 2)) (.int 8))) [.ret (.op2 .add (.op2 .add (.slc (.var 2) (.non) (.var 3)) (.tup [.var 4])) (.slc (.var 2) (.var 3) (.non)))] [.asg (.nm 7) (.call 8 0 [.brw 0, .op1 .len (.var 2)]), .asg (.nm 8) (.op1 .list (.var 2)), .sti 8 (.var 3) (.op2 .ix (.var 2) (.var 7)), .sti 8 (.var 7) (.var 4), .ret (.op1 .tupl (.var 8))]]]]], .ret (.op2 .add (.op2 .add (.slc (.var 2) (.non) (.var 3)) (.tup [.var 4])) (.slc (.var 2) (.op2 .add (.var 3) (.int 1)) (.non)))]⟩
abbrev s20 : Stmt := tp 44
abbrev n20 : List Str := ["tape", "menu", "most", "edits", "top", "k", "position", "remove", "edit"]
def d20 : Df := ⟨9, [0], [.asg (.nm 3) (.lst []), .asg (.nm 4) (.op2 .ix (.lst [.int 4, .int 13, .int 31]) (.call 8 0 [.brw 0, .int 3])), .kill [5, 6, 7, 8], .for_ (.nm 5) .rng [.call 8 0 [.brw 0, .op2 .add (.var 2) (.int 1)]] [.asg (.nm 6) (.call 8 0 [.brw 0, .var 4]), .asg (.nm 7) (.call 11 0 [.brw 0, .var 1, .op2 .ix (.lst [.int 0, .int 1, .int 2, .int 6]) (.call 8 0 [.brw 0, .int 4])]), .asg (.nm 8) (.tup [.var 6, .var 7, .call 11 0 [.brw 0, .var 1, .op2 .ix (.lst [.int 0, .int 1, .int 2, .int 6]) (.call 8 0 [.brw 0, .int 4])]]), .ife (.and_ (.op1 .truth (.var 3)) (.op2 .eq (.call 8 0 [.brw 0, .int 6]) (.int 0))) [.asg (.nm 8) (.op2 .ix (.var 3) (.call 8 0 [.brw 0, .op1 .len (.var 3)])), .kill [5, 6, 7]] [.kill [5, 6, 7]], .expr (.mth .app 3 [.var 8]), .kill [5, 6, 7, 8]], .ret (.op1 .tupl (.var 3))]⟩
abbrev s21 : Stmt := tp 45
abbrev n21 : List Str := ["tape", "menu", "lines", "choice", "edits"]
def d21 : Df := ⟨5, [0], [.asg (.nm 3) (.call 8 0 [.brw 0, .int 6]), .ife (.op2 .eq (.var 3) (.int 5)) [.ret (.call 20 0 [.brw 0, .var 1, .op2 .ix (.lst [.int 3, .int 8]) (.call 8 0 [.brw 0, .int 2])])] [], .ife (.op2 .lt (.var 3) (.int 3)) [.asg (.nm 4) (.call 17 0 [.brw 0, .var 1, .var 2, .int 8, .int 48]), .kill [2]] [.asg (.nm 4) (.call 18 0 [.brw 0, .var 1, .var 2, .op2 .ix (.lst [.int 3, .int 8]) (.call 8 0 [.brw 0, .int 2])]), .kill [2]], .ife (.or_ (.op2 .eq (.var 3) (.int 2)) (.op2 .eq (.var 3) (.int 4))) [.asg (.nm 4) (.call 19 0 [.brw 0, .var 1, .var 4]), .kill [1, 2, 3]] [.kill [1, 2, 3]], .ret (.mov 4)]⟩
abbrev s22 : Stmt := tp 46
abbrev n22 : List Str := ["edits", "e"]
def d22 : Df := ⟨2, [], [.tryR (.call 5 0 [.var 0]) 0 1, .ret (.bl false)]⟩
abbrev s23 : Stmt := tp 47
abbrev n23 : List Str := ["edits", "due", "shift", "edit"]
def d23 : Df := ⟨4, [], [.asg (.nm 1) (.lst []), .asg (.nm 2) (.int 0), .kill [3], .for_ (.nm 3) .seq [.var 0] [.expr (.mth .app 1 [.tup [.op2 .add (.op2 .ix (.var 3) (.int 0)) (.var 2), .op2 .ix (.var 3) (.int 2), .op2 .ix (.var 3) (.int 1)]]), .asg (.nm 2) (.op2 .sub (.op2 .add (.var 2) (.op1 .len (.op2 .ix (.var 3) (.int 2)))) (.op1 .len (.op2 .ix (.var 3) (.int 1)))), .kill [3]], .ret (.op1 .tupl (.var 1))]⟩
abbrev s24 : Stmt := tp 48
abbrev n24 : List Str := ["script", "tape", "menu", "row", "lines", "edits", "turn", "told", "result"]
def d24 : Df := ⟨9, [], [.asg (.nm 1) (.call 7 0 [.var 0]), .asg (.nm 2) (.call 10 0 [.brw 1]), .asg (.nm 3) (.call 12 0 [.brw 1, .var 2]), .asg (.nm 4) (.slc (.var 3) (.non) (.int 12)), .asg (.nm 5) (.call 21 0 [.brw 1, .var 2, .var 3]), .ife (.not_ (.op1 .truth (.call 14 0 [.var 5]))) [.kill [0, 1, 2, 3, 4, 6, 7, 8], .for_ (.nm 6) .rng [.int 2] [.ife (.or_ (.not_ (.op1 .truth (.call 9 0 [.call 5 0 [.slc (.var 5) (.non) (.int 1)], .call 23 0 [.slc (.var 5) (.non) (.int 1)]]))) (.not_ (.op1 .truth (.call 22 0 [.var 5])))) [.ret (.bl false)] [], .kill [0, 1, 2, 3, 4, 6, 7, 8]], .ret (.bl true)] [], .asg (.nm 7) (.call 5 0 [.var 5]), .ife (.or_ (.not_ (.op1 .truth (.call 9 0 [.var 7, .call 23 0 [.var 5]]))) (.not_ (.op1 .truth (.call 9 0 [.call 2 0 [.var 7], .bl true])))) [.ret (.bl false)] [], .ife (.not_ (.op1 .truth (.call 9 0 [.call 5 0 [.var 7], .var 5]))) [.ret (.bl false)] [], .asg (.nm 8) (.call 3 0 [.var 4, .var 5]), .ife (.not_ (.op1 .truth (.call 9 0 [.var 8, .call 16 0 [.var 4, .var 5]]))) [.ret (.bl false)] [], .ret (.or_ (.op1 .isN (.var 8)) (.call 9 0 [.call 3 0 [.var 8, .var 7], .var 4]))]⟩
def lamF : Nat → Option Lam := fun i => none
def lt : Nat → Option Nat := fun i => none
section
variable [Tb]
variable {P : Program} {w : World} {K : PySem.W.Frag} {mg : Str → Option Value} {base : Heap} {k : Nat} {exA : Nat → Option Addr} {Φ : Fn} {fa : Nat → Addr} {fdd : Nat → FuncData}
set_option maxHeartbeats 0 in
theorem b0 (B : BltOk (cfgOf P w K mg base (defScope s0) n0 d0.pr k exA)) (F : FtOk (cfgOf P w K mg base (defScope s0) n0 d0.pr k exA) Φ (ft fa fdd) tt) (W : WX) : SndB (cfgOf P w K mg base (defScope s0) n0 d0.pr k exA) W (defBody s0) (evB Φ (shsOf tt) d0.body) :=
  (sndB_cons (sndS_asgT pr_cfg rfl rfl rfl rfl rfl (fun _ z => by cases z) (ninOf rfl) (snd_var rfl)) (sndB_cons (sndS_asgN pr_cfg rfl rfl rfl (snd_call (fi := ⟨"end_of", fa 1, fdd 1, ["edit"]⟩) F rfl rfl rfl rfl rfl rfl (sa_e rfl rfl (snd_var rfl) sndA_nil))) (sndB_cons (sndS_ret (snd_andN (s_cmp rfl (so_v rfl) (so_e rfl snd_int)) (snd_andN (s_cmp rfl (so_v rfl) (so_e rfl (s_b1 B rfl rfl rfl (so_v rfl)))) (snd_one (s_cmp rfl (so_e rfl (s_slc (so_v rfl) (.inr ⟨_, rfl, rfl, (snd_var rfl)⟩) (.inr ⟨_, rfl, rfl, (snd_var rfl)⟩))) (so_v rfl)))))) sndB_nil)))
set_option maxHeartbeats 0 in
theorem b1 (B : BltOk (cfgOf P w K mg base (defScope s1) n1 d1.pr k exA)) (F : FtOk (cfgOf P w K mg base (defScope s1) n1 d1.pr k exA) Φ (ft fa fdd) tt) (W : WX) : SndB (cfgOf P w K mg base (defScope s1) n1 d1.pr k exA) W (defBody s1) (evB Φ (shsOf tt) d1.body) :=
  (sndB_cons (sndS_asgT pr_cfg rfl rfl rfl rfl rfl (fun _ z => by cases z) (ninOf rfl) (snd_var rfl)) (sndB_cons (sndS_ret (s_add (so_v rfl) (so_e rfl (s_b1 B rfl rfl rfl (so_v rfl))))) sndB_nil))
set_option maxHeartbeats 0 in
theorem b2 (B : BltOk (cfgOf P w K mg base (defScope s2) n2 d2.pr k exA)) (F : FtOk (cfgOf P w K mg base (defScope s2) n2 d2.pr k exA) Φ (ft fa fdd) tt) (W : WX) : SndB (cfgOf P w K mg base (defScope s2) n2 d2.pr k exA) W (defBody s2) (evB Φ (shsOf tt) d2.body) :=
  (sndB_cons (sndS_ret (s_b1 B rfl rfl rfl (so_e rfl (snd_comp rfl rfl (inOf rfl) rfl (sndI_zip rfl (B "zip" (by decide)) rfl rfl (sa_e rfl rfl (snd_var rfl) (sa_e rfl rfl (s_slc (so_v rfl) (.inr ⟨_, rfl, rfl, snd_int⟩) (.inl ⟨rfl, rfl⟩)) sndA_nil))) sndC_nil (s_cmp rfl (so_e rfl (snd_call (fi := ⟨"end_of", fa 1, fdd 1, ["edit"]⟩) (F.blk _) rfl rfl rfl rfl rfl rfl (sa_e rfl rfl (snd_var rfl) sndA_nil))) (so_e rfl (s_ix rfl (so_v rfl) (so_e rfl snd_int)))))))) sndB_nil)
set_option maxHeartbeats 0 in
theorem b3 (B : BltOk (cfgOf P w K mg base (defScope s3) n3 d3.pr k exA)) (F : FtOk (cfgOf P w K mg base (defScope s3) n3 d3.pr k exA) Φ (ft fa fdd) tt) (W : WX) : SndB (cfgOf P w K mg base (defScope s3) n3 d3.pr k exA) W (defBody s3) (evB Φ (shsOf tt) d3.body) :=
  (sndB_cons (sndS_asgN pr_cfg rfl rfl rfl (snd_call (fi := ⟨"line_origins", fa 4, fdd 4, ["lines", "edits"]⟩) F rfl rfl rfl rfl rfl rfl (sa_e rfl rfl (snd_var rfl) (sa_e rfl rfl (snd_var rfl) sndA_nil)))) (sndB_cons (sndS_ife (t_isN (so_v rfl)) (sndB_cons (sndS_ret snd_non) sndB_nil) sndB_nil) (sndB_cons (sndS_ret (s_b1 B rfl rfl rfl (so_e rfl (snd_comp rfl rfl (inOf rfl) rfl (sndI_seq rfl (snd_var rfl)) sndC_nil (snd_call (fi := ⟨"_line_from", fa 6, fdd 6, ["lines", "edits", "origin"]⟩) (F.blk _) rfl rfl rfl rfl rfl rfl (sa_e rfl rfl (snd_var rfl) (sa_e rfl rfl (snd_var rfl) (sa_e rfl rfl (snd_var rfl) sndA_nil)))))))) sndB_nil)))
set_option maxHeartbeats 0 in
theorem b4 (B : BltOk (cfgOf P w K mg base (defScope s4) n4 d4.pr k exA)) (F : FtOk (cfgOf P w K mg base (defScope s4) n4 d4.pr k exA) Φ (ft fa fdd) tt) (W : WX) : SndB (cfgOf P w K mg base (defScope s4) n4 d4.pr k exA) W (defBody s4) (evB Φ (shsOf tt) d4.body) :=
  (sndB_cons (sndS_ife (SndW.t (sw_or1 (sndT_not (sndT_truth rfl (so_e rfl (snd_call (fi := ⟨"in_order", fa 2, fdd 2, ["edits"]⟩) F rfl rfl rfl rfl rfl rfl (sa_e rfl rfl (snd_var rfl) sndA_nil))))) (sndT_not (sndT_truth rfl (so_e rfl (s_b1 B rfl rfl rfl (so_e rfl (snd_comp rfl rfl (inOf rfl) rfl (sndI_seq rfl (snd_var rfl)) sndC_nil (snd_call (fi := ⟨"applies", fa 0, fdd 0, ["lines", "edit"]⟩) (F.blk _) rfl rfl rfl rfl rfl rfl (sa_e rfl rfl (snd_var rfl) (sa_e rfl rfl (snd_var rfl) sndA_nil))))))))))) (sndB_cons (sndS_ret snd_non) sndB_nil) sndB_nil) (sndB_cons (sndS_asgN pr_cfg rfl rfl rfl (snd_lst sndA_nil)) (sndB_cons (sndS_asgN pr_cfg rfl rfl rfl snd_int) (sndB_kill (sndB_cons (sndS_for pr_cfg rfl (ninOf rfl) rfl (sndI_enum rfl (B "enumerate" (by decide)) rfl (sa_e rfl rfl (snd_var rfl) sndA_nil) rfl) (sndB_cons (sndS_expr rfl (s_ext rfl rfl rfl (by decide) (sa_e rfl rfl (snd_comp rfl rfl (inOf rfl) rfl (sndI_rng2 rfl (B "range" (by decide)) rfl rfl (sa_e rfl rfl (snd_var rfl) (sa_e rfl rfl (s_ix rfl (so_v rfl) (so_e rfl snd_int)) sndA_nil))) sndC_nil (snd_tup (sa_e rfl rfl snd_str (sa_e rfl rfl (snd_var rfl) sndA_nil)))) sndA_nil))) (sndB_cons (sndS_expr rfl (s_ext rfl rfl rfl (by decide) (sa_e rfl rfl (snd_comp rfl rfl (inOf rfl) rfl (sndI_rng1 rfl (B "range" (by decide)) rfl (sa_e rfl rfl (s_b1 B rfl rfl rfl (so_e rfl (s_ix rfl (so_v rfl) (so_e rfl snd_int)))) sndA_nil) rfl) sndC_nil (snd_tup (sa_e rfl rfl snd_str (sa_e rfl rfl (snd_var rfl) (sa_e rfl rfl (snd_var rfl) sndA_nil))))) sndA_nil))) (sndB_cons (sndS_asgN pr_cfg rfl rfl rfl (snd_call (fi := ⟨"end_of", fa 1, fdd 1, ["edit"]⟩) F rfl rfl rfl rfl rfl rfl (sa_e rfl rfl (snd_var rfl) sndA_nil))) (sndB_kill sndB_nil))))) (sndB_cons (sndS_expr rfl (s_ext rfl rfl rfl (by decide) (sa_e rfl rfl (snd_comp rfl rfl (inOf rfl) rfl (sndI_rng2 rfl (B "range" (by decide)) rfl rfl (sa_e rfl rfl (snd_var rfl) (sa_e rfl rfl (s_b1 B rfl rfl rfl (so_v rfl)) sndA_nil))) sndC_nil (snd_tup (sa_e rfl rfl snd_str (sa_e rfl rfl (snd_var rfl) sndA_nil)))) sndA_nil))) (sndB_cons (sndS_ret (s_b1 B rfl rfl rfl (so_v rfl))) sndB_nil)))))))
set_option maxHeartbeats 0 in
theorem b5 {xc : Addr} (RO : RaiseOk (cfgOf P w K mg base (defScope s5) n5 d5.pr k exA) "NotInOrder" xc) (HX : exA 0 = some xc) (B : BltOk (cfgOf P w K mg base (defScope s5) n5 d5.pr k exA)) (F : FtOk (cfgOf P w K mg base (defScope s5) n5 d5.pr k exA) Φ (ft fa fdd) tt) (W : WX) : SndB (cfgOf P w K mg base (defScope s5) n5 d5.pr k exA) W (defBody s5) (evB Φ (shsOf tt) d5.body) :=
  (sndB_cons (sndS_ife (sndT_not (sndT_truth rfl (so_e rfl (snd_call (fi := ⟨"in_order", fa 2, fdd 2, ["edits"]⟩) F rfl rfl rfl rfl rfl rfl (sa_e rfl rfl (snd_var rfl) sndA_nil))))) (sndB_cons (sndS_rse RO HX rfl rfl) sndB_nil) sndB_nil) (sndB_cons (sndS_asgN pr_cfg rfl rfl rfl (snd_lst sndA_nil)) (sndB_cons (sndS_asgN pr_cfg rfl rfl rfl snd_int) (sndB_kill (sndB_cons (sndS_for pr_cfg rfl (ninOf rfl) rfl (sndI_seq rfl (snd_var rfl)) (sndB_cons (sndS_expr rfl (s_app rfl rfl rfl (by decide) (sa_e rfl rfl (snd_tup (sa_e rfl rfl (s_add (so_v rfl) (so_v rfl)) (sa_e rfl rfl (snd_var rfl) (sa_e rfl rfl (snd_var rfl) sndA_nil)))) sndA_nil))) (sndB_cons (sndS_aug pr_cfg rfl rfl rfl (s_sub (so_e rfl (s_b1 B rfl rfl rfl (so_v rfl))) (so_e rfl (s_b1 B rfl rfl rfl (so_v rfl))))) (sndB_kill sndB_nil)))) (sndB_cons (sndS_ret (s_b1 B rfl rfl rfl (so_v rfl))) sndB_nil))))))
set_option maxHeartbeats 0 in
theorem b6 (B : BltOk (cfgOf P w K mg base (defScope s6) n6 d6.pr k exA)) (F : FtOk (cfgOf P w K mg base (defScope s6) n6 d6.pr k exA) Φ (ft fa fdd) tt) (W : WX) : SndB (cfgOf P w K mg base (defScope s6) n6 d6.pr k exA) W (defBody s6) (evB Φ (shsOf tt) d6.body) :=
  (sndB_cons (sndS_ife (t_cmp rfl (so_e rfl (s_ix rfl (so_v rfl) (so_e rfl snd_int))) (so_e rfl snd_str)) (sndB_cons (sndS_ret (s_ix rfl (so_v rfl) (so_e rfl (s_ix rfl (so_v rfl) (so_e rfl snd_int))))) sndB_nil) sndB_nil) (sndB_cons (sndS_ret (s_ix rfl (so_e rfl (s_ix rfl (so_e rfl (s_ix rfl (so_v rfl) (so_e rfl (s_ix rfl (so_v rfl) (so_e rfl snd_int))))) (so_e rfl snd_int))) (so_e rfl (s_ix rfl (so_v rfl) (so_e rfl snd_int))))) sndB_nil))
set_option maxHeartbeats 0 in
theorem b7 (B : BltOk (cfgOf P w K mg base (defScope s7) n7 d7.pr k exA)) (F : FtOk (cfgOf P w K mg base (defScope s7) n7 d7.pr k exA) Φ (ft fa fdd) tt) (W : WX) : SndB (cfgOf P w K mg base (defScope s7) n7 d7.pr k exA) W (defBody s7) (evB Φ (shsOf tt) d7.body) :=
  (sndB_cons (sndS_asgN pr_cfg rfl rfl rfl snd_int) (sndB_kill (sndB_cons (sndS_for pr_cfg rfl (ninOf rfl) rfl (sndI_seq rfl (snd_var rfl)) (sndB_cons (sndS_asgN pr_cfg rfl rfl rfl (s_mod (so_e rfl (s_b1 B rfl rfl rfl (so_e rfl (s_add (so_e rfl (s_mul (so_v rfl) (so_e rfl snd_int))) (so_e rfl (s_b1 B rfl rfl rfl (so_e rfl (s_b1 B rfl rfl rfl (so_v rfl))))))))) (so_e rfl snd_int))) (sndB_kill sndB_nil))) (sndB_cons (sndS_ret (snd_lst (sa_e rfl rfl (s_b1 B rfl rfl rfl (so_v rfl)) (sa_e rfl rfl snd_int (sa_e rfl rfl snd_int (sa_e rfl rfl (snd_var rfl) sndA_nil)))))) sndB_nil))))
set_option maxHeartbeats 0 in
theorem b8 (B : BltOk (cfgOf P w K mg base (defScope s8) n8 d8.pr k exA)) (F : FtOk (cfgOf P w K mg base (defScope s8) n8 d8.pr k exA) Φ (ft fa fdd) tt) (W : WX) : SndB (cfgOf P w K mg base (defScope s8) n8 d8.pr k exA) W (defBody s8) (evB Φ (shsOf tt) d8.body) :=
  (sndB_cons (sndS_ife (t_cmp rfl (so_e rfl (s_ix rfl (so_v rfl) (so_e rfl snd_int))) (so_e rfl snd_int)) (sndB_cons (sndS_asgN pr_cfg rfl rfl rfl (s_ix rfl (so_v rfl) (so_e rfl snd_int))) (sndB_cons (sndS_asgN pr_cfg rfl rfl rfl snd_int) (sndB_cons (sndS_ife (t_cmp rfl (so_v rfl) (so_e rfl (s_b1 B rfl rfl rfl (so_e rfl (s_ix rfl (so_v rfl) (so_e rfl snd_int)))))) (sndB_cons (sndS_asgN pr_cfg rfl rfl rfl (s_b1 B rfl rfl rfl (so_e rfl (s_b1 B rfl rfl rfl (so_e rfl (s_ix rfl (so_e rfl (s_ix rfl (so_v rfl) (so_e rfl snd_int))) (so_v rfl))))))) (sndB_kill sndB_nil)) (sndB_cons (sndS_sti rfl rfl rfl snd_int (s_mod (so_e rfl (s_b1 B rfl rfl rfl (so_e rfl (s_add (so_e rfl (s_add (so_e rfl (s_mul (so_e rfl (s_ix rfl (so_v rfl) (so_e rfl snd_int))) (so_e rfl snd_int))) (so_v rfl))) (so_e rfl snd_int))))) (so_e rfl snd_int))) (sndB_cons (sndS_asgN pr_cfg rfl rfl rfl (s_ix rfl (so_v rfl) (so_e rfl snd_int))) (sndB_kill sndB_nil)))) (sndB_cons (sndS_sti rfl rfl rfl snd_int (s_add (so_v rfl) (so_e rfl snd_int))) (sndB_cons (sndS_ife (t_cmp rfl (so_v rfl) (so_e rfl (s_pow (so_e rfl snd_int) (so_e rfl snd_int)))) (sndB_cons (sndS_asgN pr_cfg rfl rfl rfl (s_mod (so_e rfl (s_b1 B rfl rfl rfl (so_e rfl (s_add (so_e rfl (s_add (so_e rfl (s_mul (so_v rfl) (so_e rfl snd_int))) (so_e rfl (s_mul (so_v rfl) (so_e rfl snd_int))))) (so_e rfl snd_int))))) (so_e rfl snd_int))) (sndB_cons (sndS_asgN pr_cfg rfl rfl rfl (s_mod (so_e rfl (s_b1 B rfl rfl rfl (so_e rfl (s_mul (so_v rfl) (so_e rfl snd_int))))) (so_e rfl snd_int))) (sndB_cons (sndS_ret (s_mod (so_e rfl (s_b1 B rfl rfl rfl (so_v rfl))) (so_e rfl (s_max B rfl rfl rfl (so_v rfl) (so_e rfl snd_int))))) sndB_nil))) sndB_nil) (sndB_cons (sndS_sti rfl rfl rfl snd_int (snd_var rfl)) sndB_nil)))))) sndB_nil) (sndB_cons (sndS_asgN pr_cfg rfl rfl rfl (s_ix rfl (so_v rfl) (so_e rfl snd_int))) (sndB_cons (sndS_sti rfl rfl rfl snd_int (s_fdiv (so_v rfl) (so_e rfl (s_max B rfl rfl rfl (so_v rfl) (so_e rfl snd_int))))) (sndB_cons (sndS_ret (s_mod (so_e rfl (s_b1 B rfl rfl rfl (so_v rfl))) (so_e rfl (s_max B rfl rfl rfl (so_v rfl) (so_e rfl snd_int))))) sndB_nil))))
set_option maxHeartbeats 0 in
theorem b9 (B : BltOk (cfgOf P w K mg base (defScope s9) n9 d9.pr k exA)) (F : FtOk (cfgOf P w K mg base (defScope s9) n9 d9.pr k exA) Φ (ft fa fdd) tt) (W : WX) : SndB (cfgOf P w K mg base (defScope s9) n9 d9.pr k exA) W (defBody s9) (evB Φ (shsOf tt) d9.body) :=
  (sndB_cons (sndS_ife (t_isN (so_v rfl)) (sndB_cons (sndS_ret (s_isN (so_v rfl))) sndB_nil) sndB_nil) (sndB_cons (sndS_ife (sndT_truth rfl (so_e rfl (s_isi B rfl rfl rfl rfl (so_v rfl)))) (sndB_cons (sndS_ife (SndW.t (sw_or1 (sndT_not (sndT_truth rfl (so_e rfl (s_isi B rfl rfl rfl rfl (so_v rfl))))) (t_cmp rfl (so_e rfl (s_b1 B rfl rfl rfl (so_v rfl))) (so_e rfl (s_b1 B rfl rfl rfl (so_v rfl)))))) (sndB_cons (sndS_ret snd_bl) sndB_nil) sndB_nil) (sndB_kill (sndB_cons (sndS_for pr_cfg rfl (ninOf rfl) rfl (sndI_rng1 rfl (B "range" (by decide)) rfl (sa_e rfl rfl (s_b1 B rfl rfl rfl (so_v rfl)) sndA_nil) rfl) (sndB_cons (sndS_ife (sndT_not (sndT_truth rfl (so_e rfl (snd_call (fi := ⟨"_law_same", fa 9, fdd 9, ["actual", "expected"]⟩) F rfl rfl rfl rfl rfl rfl (sa_e rfl rfl (s_ix rfl (so_v rfl) (so_v rfl)) (sa_e rfl rfl (s_ix rfl (so_v rfl) (so_v rfl)) sndA_nil)))))) (sndB_cons (sndS_ret snd_bl) sndB_nil) sndB_nil) (sndB_kill sndB_nil))) (sndB_cons (sndS_ret snd_bl) sndB_nil)))) sndB_nil) (sndB_cons (sndS_ife (sndT_truth rfl (so_e rfl (s_isi B rfl rfl rfl rfl (so_v rfl)))) (sndB_cons (sndS_ret (snd_andN (s_isi B rfl rfl rfl rfl (so_v rfl)) (snd_one (s_cmp rfl (so_v rfl) (so_v rfl))))) sndB_nil) sndB_nil) (sndB_cons (sndS_ife (sndT_truth rfl (so_e rfl (s_isi B rfl rfl rfl rfl (so_v rfl)))) (sndB_cons (sndS_ret (snd_andN (s_isi B rfl rfl rfl rfl (so_v rfl)) (snd_one (s_cmp rfl (so_v rfl) (so_v rfl))))) sndB_nil) sndB_nil) (sndB_cons (sndS_ret (snd_andN (s_isi B rfl rfl rfl rfl (so_v rfl)) (snd_andN (snd_not (s_isi B rfl rfl rfl rfl (so_v rfl))) (snd_one (s_cmp rfl (so_v rfl) (so_v rfl)))))) sndB_nil)))))
set_option maxHeartbeats 0 in
theorem b10 (B : BltOk (cfgOf P w K mg base (defScope s10) n10 d10.pr k exA)) (F : FtOk (cfgOf P w K mg base (defScope s10) n10 d10.pr k exA) Φ (ft fa fdd) tt) (W : WX) : SndB (cfgOf P w K mg base (defScope s10) n10 d10.pr k exA) W (defBody s10) (evB Φ (shsOf tt) d10.body) :=
  (sndB_cons (sndS_asgN pr_cfg rfl rfl rfl snd_str) (by exact (sndB_cons (sndS_ife (t_cmp rfl (so_e rfl (snd_call (fi := ⟨"_law_draw", fa 8, fdd 8, ["tape", "many"]⟩) F rfl rfl rfl rfl rfl rfl (sa_b rfl (sa_e rfl rfl snd_int sndA_nil)))) (so_e rfl snd_int)) (sndB_cons (sndS_ret (s_slc (so_e rfl (snd_lst (sa_e rfl rfl snd_str (sa_e rfl rfl snd_str (sa_e rfl rfl snd_str (sa_e rfl rfl snd_str (sa_e rfl rfl snd_str (sa_e rfl rfl snd_str sndA_nil)))))))) (.inl ⟨rfl, rfl⟩) (.inr ⟨_, rfl, rfl, (s_add (so_e rfl snd_int) (so_e rfl (snd_call (fi := ⟨"_law_draw", fa 8, fdd 8, ["tape", "many"]⟩) F rfl rfl rfl rfl rfl rfl (sa_b rfl (sa_e rfl rfl snd_int sndA_nil)))))⟩))) sndB_nil) sndB_nil) (by exact (sndB_cons (sndS_asgN pr_cfg rfl rfl rfl (s_ix rfl (so_e rfl (snd_lst (sa_e rfl rfl snd_str (sa_e rfl rfl snd_str (sa_e rfl rfl snd_str sndA_nil))))) (so_e rfl (snd_call (fi := ⟨"_law_draw", fa 8, fdd 8, ["tape", "many"]⟩) F rfl rfl rfl rfl rfl rfl (sa_b rfl (sa_e rfl rfl snd_int sndA_nil)))))) (by exact (sndB_cons (sndS_asgN pr_cfg rfl rfl rfl (snd_lst sndA_nil)) (by exact (sndB_kill (sndB_cons (sndS_for pr_cfg rfl (ninOf rfl) rfl (sndI_rng1 rfl (B "range" (by decide)) rfl (sa_e rfl rfl (s_ix rfl (so_e rfl (snd_lst (snd_ints (ns := [2, 2, 3, 3, 4, 5, 5, 12]) rfl))) (so_e rfl (snd_call (fi := ⟨"_law_draw", fa 8, fdd 8, ["tape", "many"]⟩) F rfl rfl rfl rfl rfl rfl (sa_b rfl (sa_e rfl rfl snd_int sndA_nil))))) sndA_nil) rfl) (sndB_cons (sndS_asgN pr_cfg rfl rfl rfl (s_add (so_v rfl) (so_e rfl (s_ix rfl (so_v rfl) (so_e rfl (snd_call (fi := ⟨"_law_draw", fa 8, fdd 8, ["tape", "many"]⟩) F rfl rfl rfl rfl rfl rfl (sa_b rfl (sa_e rfl rfl (s_b1 B rfl rfl rfl (so_v rfl)) sndA_nil)))))))) (sndB_cons (sndS_ife (t_cmp rfl (so_v rfl) (so_e rfl snd_str)) (sndB_kill (sndB_cons (sndS_for pr_cfg rfl (ninOf rfl) rfl (sndI_rng1 rfl (B "range" (by decide)) rfl (sa_e rfl rfl (s_ix rfl (so_e rfl (snd_lst (sa_e rfl rfl snd_int (sa_e rfl rfl snd_int (sa_e rfl rfl snd_int (sa_e rfl rfl snd_int (sa_e rfl rfl snd_int (sa_e rfl rfl (snd_call (fi := ⟨"_law_draw", fa 8, fdd 8, ["tape", "many"]⟩) F rfl rfl rfl rfl rfl rfl (sa_b rfl (sa_e rfl rfl snd_int sndA_nil))) sndA_nil)))))))) (so_e rfl (snd_call (fi := ⟨"_law_draw", fa 8, fdd 8, ["tape", "many"]⟩) F rfl rfl rfl rfl rfl rfl (sa_b rfl (sa_e rfl rfl snd_int sndA_nil))))) sndA_nil) rfl) (sndB_cons (sndS_asgN pr_cfg rfl rfl rfl (s_add (so_v rfl) (so_e rfl (s_ix rfl (so_v rfl) (so_e rfl (snd_call (fi := ⟨"_law_draw", fa 8, fdd 8, ["tape", "many"]⟩) F rfl rfl rfl rfl rfl rfl (sa_b rfl (sa_e rfl rfl (s_b1 B rfl rfl rfl (so_v rfl)) sndA_nil)))))))) (sndB_kill sndB_nil))) (sndB_kill sndB_nil))) (sndB_kill sndB_nil)) (sndB_cons (sndS_expr rfl (s_app rfl rfl rfl (by decide) (sa_e rfl rfl (snd_var rfl) sndA_nil))) (sndB_kill sndB_nil))))) (by exact (sndB_cons (sndS_ife (t_cmp rfl (so_e rfl (snd_call (fi := ⟨"_law_draw", fa 8, fdd 8, ["tape", "many"]⟩) F rfl rfl rfl rfl rfl rfl (sa_b rfl (sa_e rfl rfl snd_int sndA_nil)))) (so_e rfl snd_int)) (sndB_cons (sndS_sti rfl rfl rfl snd_int snd_str) (sndB_kill sndB_nil)) (sndB_kill sndB_nil)) (by exact (sndB_cons (sndS_ret (snd_mov rfl)) (by exact sndB_nil)))))))))))))))
set_option maxHeartbeats 0 in
theorem b11 (B : BltOk (cfgOf P w K mg base (defScope s11) n11 d11.pr k exA)) (F : FtOk (cfgOf P w K mg base (defScope s11) n11 d11.pr k exA) Φ (ft fa fdd) tt) (W : WX) : SndB (cfgOf P w K mg base (defScope s11) n11 d11.pr k exA) W (defBody s11) (evB Φ (shsOf tt) d11.body) :=
  (sndB_cons (sndS_ret (s_b1 B rfl rfl rfl (so_e rfl (snd_comp rfl rfl (inOf rfl) rfl (sndI_rng1 rfl (B "range" (by decide)) rfl (sa_e rfl rfl (snd_call (fi := ⟨"_law_draw", fa 8, fdd 8, ["tape", "many"]⟩) F rfl rfl rfl rfl rfl rfl (sa_b rfl (sa_e rfl rfl (s_add (so_v rfl) (so_e rfl snd_int)) sndA_nil))) sndA_nil) rfl) sndC_nil (s_ix rfl (so_v rfl) (so_e rfl (snd_call (fi := ⟨"_law_draw", fa 8, fdd 8, ["tape", "many"]⟩) (F.blk _) rfl rfl rfl rfl rfl rfl (sa_b rfl (sa_e rfl rfl (s_b1 (B.blk _) rfl rfl rfl (so_v rfl)) sndA_nil))))))))) sndB_nil)
set_option maxHeartbeats 0 in
theorem b12 (B : BltOk (cfgOf P w K mg base (defScope s12) n12 d12.pr k exA)) (F : FtOk (cfgOf P w K mg base (defScope s12) n12 d12.pr k exA) Φ (ft fa fdd) tt) (W : WX) : SndB (cfgOf P w K mg base (defScope s12) n12 d12.pr k exA) W (defBody s12) (evB Φ (shsOf tt) d12.body) :=
  (sndB_cons (sndS_ret (snd_call (fi := ⟨"_law_lines", fa 11, fdd 11, ["tape", "menu", "most"]⟩) F rfl rfl rfl rfl rfl rfl (sa_b rfl (sa_e rfl rfl (snd_var rfl) (sa_e rfl rfl (s_ix rfl (so_e rfl (snd_lst (snd_ints (ns := [4, 12, 12, 36]) rfl))) (so_e rfl (snd_call (fi := ⟨"_law_draw", fa 8, fdd 8, ["tape", "many"]⟩) F rfl rfl rfl rfl rfl rfl (sa_b rfl (sa_e rfl rfl snd_int sndA_nil))))) sndA_nil))))) (by exact sndB_nil))
set_option maxHeartbeats 0 in
theorem b13 (B : BltOk (cfgOf P w K mg base (defScope s13) n13 d13.pr k exA)) (F : FtOk (cfgOf P w K mg base (defScope s13) n13 d13.pr k exA) Φ (ft fa fdd) tt) (W : WX) : SndB (cfgOf P w K mg base (defScope s13) n13 d13.pr k exA) W (defBody s13) (evB Φ (shsOf tt) d13.body) :=
  (sndB_cons (sndS_ret (s_add (so_e rfl (s_ix rfl (so_v rfl) (so_e rfl snd_int))) (so_e rfl (s_b1 B rfl rfl rfl (so_e rfl (s_ix rfl (so_v rfl) (so_e rfl snd_int))))))) sndB_nil)
set_option maxHeartbeats 0 in
theorem b14 (B : BltOk (cfgOf P w K mg base (defScope s14) n14 d14.pr k exA)) (F : FtOk (cfgOf P w K mg base (defScope s14) n14 d14.pr k exA) Φ (ft fa fdd) tt) (W : WX) : SndB (cfgOf P w K mg base (defScope s14) n14 d14.pr k exA) W (defBody s14) (evB Φ (shsOf tt) d14.body) :=
  (sndB_kill (sndB_cons (sndS_for pr_cfg rfl (ninOf rfl) rfl (sndI_rng2 rfl (B "range" (by decide)) rfl rfl (sa_e rfl rfl snd_int (sa_e rfl rfl (s_b1 B rfl rfl rfl (so_v rfl)) sndA_nil))) (sndB_cons (sndS_ife (t_cmp rfl (so_e rfl (snd_call (fi := ⟨"_law_end", fa 13, fdd 13, ["edit"]⟩) F rfl rfl rfl rfl rfl rfl (sa_e rfl rfl (s_ix rfl (so_v rfl) (so_e rfl (s_sub (so_v rfl) (so_e rfl snd_int)))) sndA_nil))) (so_e rfl (s_ix rfl (so_e rfl (s_ix rfl (so_v rfl) (so_v rfl))) (so_e rfl snd_int)))) (sndB_cons (sndS_ret snd_bl) sndB_nil) sndB_nil) (sndB_kill sndB_nil))) (sndB_cons (sndS_ret snd_bl) sndB_nil)))
set_option maxHeartbeats 0 in
theorem b15 (B : BltOk (cfgOf P w K mg base (defScope s15) n15 d15.pr k exA)) (F : FtOk (cfgOf P w K mg base (defScope s15) n15 d15.pr k exA) Φ (ft fa fdd) tt) (W : WX) : SndB (cfgOf P w K mg base (defScope s15) n15 d15.pr k exA) W (defBody s15) (evB Φ (shsOf tt) d15.body) :=
  (sndB_cons (sndS_ret (snd_andN (s_cmp rfl (so_e rfl (snd_call (fi := ⟨"_law_end", fa 13, fdd 13, ["edit"]⟩) F rfl rfl rfl rfl rfl rfl (sa_e rfl rfl (snd_var rfl) sndA_nil))) (so_e rfl (s_b1 B rfl rfl rfl (so_v rfl)))) (snd_one (s_cmp rfl (so_e rfl (s_slc (so_v rfl) (.inr ⟨_, rfl, rfl, (s_ix rfl (so_v rfl) (so_e rfl snd_int))⟩) (.inr ⟨_, rfl, rfl, (snd_call (fi := ⟨"_law_end", fa 13, fdd 13, ["edit"]⟩) F rfl rfl rfl rfl rfl rfl (sa_e rfl rfl (snd_var rfl) sndA_nil))⟩))) (so_e rfl (s_ix rfl (so_v rfl) (so_e rfl snd_int))))))) sndB_nil)
set_option maxHeartbeats 0 in
theorem b16 (B : BltOk (cfgOf P w K mg base (defScope s16) n16 d16.pr k exA)) (F : FtOk (cfgOf P w K mg base (defScope s16) n16 d16.pr k exA) Φ (ft fa fdd) tt) (W : WX) : SndB (cfgOf P w K mg base (defScope s16) n16 d16.pr k exA) W (defBody s16) (evB Φ (shsOf tt) d16.body) :=
  (sndB_cons (sndS_ife (sndT_not (sndT_truth rfl (so_e rfl (snd_call (fi := ⟨"_law_ordered", fa 14, fdd 14, ["edits"]⟩) F rfl rfl rfl rfl rfl rfl (sa_e rfl rfl (snd_var rfl) sndA_nil))))) (sndB_cons (sndS_ret snd_non) sndB_nil) sndB_nil) (sndB_kill (sndB_cons (sndS_for pr_cfg rfl (ninOf rfl) rfl (sndI_seq rfl (snd_var rfl)) (sndB_cons (sndS_ife (sndT_not (sndT_truth rfl (so_e rfl (snd_call (fi := ⟨"_law_fits", fa 15, fdd 15, ["lines", "edit"]⟩) F rfl rfl rfl rfl rfl rfl (sa_e rfl rfl (snd_var rfl) (sa_e rfl rfl (snd_var rfl) sndA_nil)))))) (sndB_cons (sndS_ret snd_non) sndB_nil) sndB_nil) (sndB_kill sndB_nil))) (sndB_kill (sndB_cons (sndS_for pr_cfg rfl (ninOf rfl) rfl (sndI_rev rfl (B "reversed" (by decide)) rfl (snd_var rfl) rfl) (sndB_cons (sndS_asgN pr_cfg rfl rfl rfl (s_add (so_e rfl (s_add (so_e rfl (s_slc (so_v rfl) (.inl ⟨rfl, rfl⟩) (.inr ⟨_, rfl, rfl, (s_ix rfl (so_v rfl) (so_e rfl snd_int))⟩))) (so_e rfl (s_ix rfl (so_v rfl) (so_e rfl snd_int))))) (so_e rfl (s_slc (so_v rfl) (.inr ⟨_, rfl, rfl, (snd_call (fi := ⟨"_law_end", fa 13, fdd 13, ["edit"]⟩) F rfl rfl rfl rfl rfl rfl (sa_e rfl rfl (snd_var rfl) sndA_nil))⟩) (.inl ⟨rfl, rfl⟩))))) (sndB_kill sndB_nil))) (sndB_cons (sndS_ret (snd_mov rfl)) sndB_nil))))))
set_option maxHeartbeats 0 in
theorem b17 (B : BltOk (cfgOf P w K mg base (defScope s17) n17 d17.pr k exA)) (F : FtOk (cfgOf P w K mg base (defScope s17) n17 d17.pr k exA) Φ (ft fa fdd) tt) (W : WX) : SndB (cfgOf P w K mg base (defScope s17) n17 d17.pr k exA) W (defBody s17) (evB Φ (shsOf tt) d17.body) :=
  (sndB_cons (sndS_asgN pr_cfg rfl rfl rfl (snd_lst sndA_nil)) (by exact (sndB_cons (sndS_asgN pr_cfg rfl rfl rfl snd_int) (by exact (sndB_kill (sndB_cons (sndS_for pr_cfg rfl (ninOf rfl) rfl (sndI_rng1 rfl (B "range" (by decide)) rfl (sa_e rfl rfl (snd_call (fi := ⟨"_law_draw", fa 8, fdd 8, ["tape", "many"]⟩) F rfl rfl rfl rfl rfl rfl (sa_b rfl (sa_e rfl rfl (s_add (so_v rfl) (so_e rfl snd_int)) sndA_nil))) sndA_nil) rfl) (sndB_cons (sndS_asgN pr_cfg rfl rfl rfl (s_min B rfl rfl rfl (so_e rfl (s_add (so_v rfl) (so_e rfl (s_ix rfl (so_e rfl (snd_lst (snd_ints (ns := [0, 0, 1, 3, 11]) rfl))) (so_e rfl (snd_call (fi := ⟨"_law_draw", fa 8, fdd 8, ["tape", "many"]⟩) F rfl rfl rfl rfl rfl rfl (sa_b rfl (sa_e rfl rfl snd_int sndA_nil)))))))) (so_e rfl (s_b1 B rfl rfl rfl (so_v rfl))))) (by exact (sndB_cons (sndS_ife (t_cmp rfl (so_v rfl) (so_e rfl snd_int)) (sndB_kill (sndB_cons sndS_brk sndB_nil)) sndB_nil) (by exact (sndB_cons (sndS_asgN pr_cfg rfl rfl rfl (s_min B rfl rfl rfl (so_e rfl (s_add (so_v rfl) (so_e rfl (s_ix rfl (so_e rfl (snd_lst (snd_ints (ns := [0, 0, 1, 2, 6]) rfl))) (so_e rfl (snd_call (fi := ⟨"_law_draw", fa 8, fdd 8, ["tape", "many"]⟩) F rfl rfl rfl rfl rfl rfl (sa_b rfl (sa_e rfl rfl snd_int sndA_nil)))))))) (so_e rfl (s_b1 B rfl rfl rfl (so_v rfl))))) (by exact (sndB_cons (sndS_asgN pr_cfg rfl rfl rfl (snd_call (fi := ⟨"_law_lines", fa 11, fdd 11, ["tape", "menu", "most"]⟩) F rfl rfl rfl rfl rfl rfl (sa_b rfl (sa_e rfl rfl (snd_var rfl) (sa_e rfl rfl (s_min B rfl rfl rfl (so_e rfl (s_ix rfl (so_e rfl (snd_lst (snd_ints (ns := [0, 1, 2, 6]) rfl))) (so_e rfl (snd_call (fi := ⟨"_law_draw", fa 8, fdd 8, ["tape", "many"]⟩) F rfl rfl rfl rfl rfl rfl (sa_b rfl (sa_e rfl rfl snd_int sndA_nil)))))) (so_v rfl)) sndA_nil))))) (by exact (sndB_cons (sndS_expr rfl (s_app rfl rfl rfl (by decide) (sa_e rfl rfl (snd_tup (sa_e rfl rfl (snd_var rfl) (sa_e rfl rfl (s_slc (so_v rfl) (.inr ⟨_, rfl, rfl, (snd_var rfl)⟩) (.inr ⟨_, rfl, rfl, (snd_var rfl)⟩)) (sa_e rfl rfl (snd_var rfl) sndA_nil)))) sndA_nil))) (by exact (sndB_cons (sndS_asgN pr_cfg rfl rfl rfl (s_sub (so_v rfl) (so_e rfl (s_b1 B rfl rfl rfl (so_v rfl))))) (by exact (sndB_cons (sndS_asgN pr_cfg rfl rfl rfl (snd_var rfl)) (by exact (sndB_kill sndB_nil)))))))))))))))) (by exact (sndB_cons (sndS_ret (s_b1 B rfl rfl rfl (so_v rfl))) (by exact sndB_nil)))))))))
set_option maxHeartbeats 0 in
theorem b18 (B : BltOk (cfgOf P w K mg base (defScope s18) n18 d18.pr k exA)) (F : FtOk (cfgOf P w K mg base (defScope s18) n18 d18.pr k exA) Φ (ft fa fdd) tt) (W : WX) : SndB (cfgOf P w K mg base (defScope s18) n18 d18.pr k exA) W (defBody s18) (evB Φ (shsOf tt) d18.body) :=
  (sndB_cons (sndS_asgN pr_cfg rfl rfl rfl (snd_lst sndA_nil)) (by exact (sndB_kill (sndB_cons (sndS_for pr_cfg rfl (ninOf rfl) rfl (sndI_rng1 rfl (B "range" (by decide)) rfl (sa_e rfl rfl (snd_call (fi := ⟨"_law_draw", fa 8, fdd 8, ["tape", "many"]⟩) F rfl rfl rfl rfl rfl rfl (sa_b rfl (sa_e rfl rfl (s_add (so_v rfl) (so_e rfl snd_int)) sndA_nil))) sndA_nil) rfl) (sndB_cons (sndS_asgN pr_cfg rfl rfl rfl (snd_call (fi := ⟨"_law_draw", fa 8, fdd 8, ["tape", "many"]⟩) F rfl rfl rfl rfl rfl rfl (sa_b rfl (sa_e rfl rfl (s_add (so_e rfl (s_min B rfl rfl rfl (so_e rfl (s_b1 B rfl rfl rfl (so_v rfl))) (so_e rfl snd_int))) (so_e rfl snd_int)) sndA_nil)))) (by exact (sndB_cons (sndS_asgN pr_cfg rfl rfl rfl (s_min B rfl rfl rfl (so_e rfl (s_add (so_v rfl) (so_e rfl (s_ix rfl (so_e rfl (snd_lst (snd_ints (ns := [0, 0, 1, 2, 3, 6]) rfl))) (so_e rfl (snd_call (fi := ⟨"_law_draw", fa 8, fdd 8, ["tape", "many"]⟩) F rfl rfl rfl rfl rfl rfl (sa_b rfl (sa_e rfl rfl snd_int sndA_nil)))))))) (so_e rfl (s_b1 B rfl rfl rfl (so_v rfl))))) (by exact (sndB_cons (sndS_asgN pr_cfg rfl rfl rfl (snd_tup (sa_e rfl rfl (snd_var rfl) (sa_e rfl rfl (s_slc (so_v rfl) (.inr ⟨_, rfl, rfl, (snd_var rfl)⟩) (.inr ⟨_, rfl, rfl, (snd_var rfl)⟩)) (sa_e rfl rfl (snd_call (fi := ⟨"_law_lines", fa 11, fdd 11, ["tape", "menu", "most"]⟩) F rfl rfl rfl rfl rfl rfl (sa_b rfl (sa_e rfl rfl (snd_var rfl) (sa_e rfl rfl (s_ix rfl (so_e rfl (snd_lst (snd_ints (ns := [0, 1, 2, 6]) rfl))) (so_e rfl (snd_call (fi := ⟨"_law_draw", fa 8, fdd 8, ["tape", "many"]⟩) F rfl rfl rfl rfl rfl rfl (sa_b rfl (sa_e rfl rfl snd_int sndA_nil))))) sndA_nil)))) sndA_nil))))) (by exact (sndB_cons (sndS_ife (SndW.t (sw_and1 (sndT_truth rfl (so_v rfl)) (t_cmp rfl (so_e rfl (snd_call (fi := ⟨"_law_draw", fa 8, fdd 8, ["tape", "many"]⟩) F rfl rfl rfl rfl rfl rfl (sa_b rfl (sa_e rfl rfl snd_int sndA_nil)))) (so_e rfl snd_int)))) (sndB_cons (sndS_asgN pr_cfg rfl rfl rfl (s_ix rfl (so_v rfl) (so_e rfl (snd_call (fi := ⟨"_law_draw", fa 8, fdd 8, ["tape", "many"]⟩) F rfl rfl rfl rfl rfl rfl (sa_b rfl (sa_e rfl rfl (s_b1 B rfl rfl rfl (so_v rfl)) sndA_nil)))))) (sndB_kill sndB_nil)) (sndB_kill sndB_nil)) (by exact (sndB_cons (sndS_expr rfl (s_app rfl rfl rfl (by decide) (sa_e rfl rfl (snd_var rfl) sndA_nil))) (by exact (sndB_kill sndB_nil)))))))))))) (by exact (sndB_cons (sndS_ret (s_b1 B rfl rfl rfl (so_v rfl))) (by exact sndB_nil)))))))
set_option maxHeartbeats 0 in
theorem b19 (B : BltOk (cfgOf P w K mg base (defScope s19) n19 d19.pr k exA)) (F : FtOk (cfgOf P w K mg base (defScope s19) n19 d19.pr k exA) Φ (ft fa fdd) tt) (W : WX) : SndB (cfgOf P w K mg base (defScope s19) n19 d19.pr k exA) W (defBody s19) (evB Φ (shsOf tt) d19.body) :=
  (sndB_cons (sndS_ife (sndT_not (sndT_truth rfl (so_v rfl))) (sndB_cons (sndS_ret (snd_tup (sa_e rfl rfl (snd_tup (sa_e rfl rfl (snd_call (fi := ⟨"_law_draw", fa 8, fdd 8, ["tape", "many"]⟩) F rfl rfl rfl rfl rfl rfl (sa_b rfl (sa_e rfl rfl snd_int sndA_nil))) (sa_e rfl rfl (snd_call (fi := ⟨"_law_lines", fa 11, fdd 11, ["tape", "menu", "most"]⟩) F rfl rfl rfl rfl rfl rfl (sa_b rfl (sa_e rfl rfl (snd_var rfl) (sa_e rfl rfl snd_int sndA_nil)))) (sa_e rfl rfl (snd_call (fi := ⟨"_law_lines", fa 11, fdd 11, ["tape", "menu", "most"]⟩) F rfl rfl rfl rfl rfl rfl (sa_b rfl (sa_e rfl rfl (snd_var rfl) (sa_e rfl rfl snd_int sndA_nil)))) sndA_nil)))) sndA_nil))) sndB_nil) sndB_nil) (sndB_cons (sndS_asgN pr_cfg rfl rfl rfl (snd_call (fi := ⟨"_law_draw", fa 8, fdd 8, ["tape", "many"]⟩) F rfl rfl rfl rfl rfl rfl (sa_b rfl (sa_e rfl rfl (s_b1 B rfl rfl rfl (so_v rfl)) sndA_nil)))) (sndB_cons (sndS_asgN pr_cfg rfl rfl rfl (s_ix rfl (so_v rfl) (so_v rfl))) (sndB_cons (sndS_asgN pr_cfg rfl rfl rfl (snd_call (fi := ⟨"_law_draw", fa 8, fdd 8, ["tape", "many"]⟩) F rfl rfl rfl rfl rfl rfl (sa_b rfl (sa_e rfl rfl snd_int sndA_nil)))) (sndB_cons (sndS_ife (SndW.t (sw_and1 (t_cmp rfl (so_v rfl) (so_e rfl snd_int)) (sndT_truth rfl (so_e rfl (s_ix rfl (so_v rfl) (so_e rfl snd_int)))))) (sndB_cons (sndS_asgN pr_cfg rfl rfl rfl (snd_call (fi := ⟨"_law_draw", fa 8, fdd 8, ["tape", "many"]⟩) F rfl rfl rfl rfl rfl rfl (sa_b rfl (sa_e rfl rfl (s_b1 B rfl rfl rfl (so_e rfl (s_ix rfl (so_v rfl) (so_e rfl snd_int)))) sndA_nil)))) (sndB_cons (sndS_asgN pr_cfg rfl rfl rfl (snd_tup (sa_e rfl rfl (s_ix rfl (so_v rfl) (so_e rfl snd_int)) (sa_e rfl rfl (s_add (so_e rfl (s_add (so_e rfl (s_slc (so_e rfl (s_ix rfl (so_v rfl) (so_e rfl snd_int))) (.inl ⟨rfl, rfl⟩) (.inr ⟨_, rfl, rfl, (snd_var rfl)⟩))) (so_e rfl (snd_tup (sa_e rfl rfl (s_ix rfl (so_v rfl) (so_e rfl (snd_call (fi := ⟨"_law_draw", fa 8, fdd 8, ["tape", "many"]⟩) F rfl rfl rfl rfl rfl rfl (sa_b rfl (sa_e rfl rfl (s_b1 B rfl rfl rfl (so_v rfl)) sndA_nil))))) sndA_nil))))) (so_e rfl (s_slc (so_e rfl (s_ix rfl (so_v rfl) (so_e rfl snd_int))) (.inr ⟨_, rfl, rfl, (s_add (so_v rfl) (so_e rfl snd_int))⟩) (.inl ⟨rfl, rfl⟩)))) (sa_e rfl rfl (s_ix rfl (so_v rfl) (so_e rfl snd_int)) sndA_nil))))) sndB_nil)) (sndB_cons (sndS_ife (t_cmp rfl (so_v rfl) (so_e rfl snd_int)) (sndB_cons (sndS_asgN pr_cfg rfl rfl rfl (snd_tup (sa_e rfl rfl (s_max B rfl rfl rfl (so_e rfl (s_sub (so_e rfl (s_ix rfl (so_v rfl) (so_e rfl snd_int))) (so_e rfl snd_int))) (so_e rfl snd_int)) (sa_e rfl rfl (s_ix rfl (so_v rfl) (so_e rfl snd_int)) (sa_e rfl rfl (s_ix rfl (so_v rfl) (so_e rfl snd_int)) sndA_nil))))) sndB_nil) (sndB_cons (sndS_ife (t_cmp rfl (so_v rfl) (so_e rfl snd_int)) (sndB_cons (sndS_asgN pr_cfg rfl rfl rfl (snd_tup (sa_e rfl rfl (s_min B rfl rfl rfl (so_e rfl (s_add (so_e rfl (s_add (so_e rfl (s_ix rfl (so_v rfl) (so_e rfl snd_int))) (so_e rfl snd_int))) (so_e rfl (snd_call (fi := ⟨"_law_draw", fa 8, fdd 8, ["tape", "many"]⟩) F rfl rfl rfl rfl rfl rfl (sa_b rfl (sa_e rfl rfl snd_int sndA_nil)))))) (so_e rfl snd_int)) (sa_e rfl rfl (s_ix rfl (so_v rfl) (so_e rfl snd_int)) (sa_e rfl rfl (s_ix rfl (so_v rfl) (so_e rfl snd_int)) sndA_nil))))) sndB_nil) (sndB_cons (sndS_ife (t_cmp rfl (so_v rfl) (so_e rfl snd_int)) (sndB_cons (sndS_asgN pr_cfg rfl rfl rfl (snd_tup (sa_e rfl rfl (s_ix rfl (so_v rfl) (so_e rfl snd_int)) (sa_e rfl rfl (s_slc (so_e rfl (s_add (so_e rfl (s_ix rfl (so_v rfl) (so_e rfl snd_int))) (so_e rfl (snd_tup (sa_e rfl rfl (s_ix rfl (so_v rfl) (so_e rfl (snd_call (fi := ⟨"_law_draw", fa 8, fdd 8, ["tape", "many"]⟩) F rfl rfl rfl rfl rfl rfl (sa_b rfl (sa_e rfl rfl (s_b1 B rfl rfl rfl (so_v rfl)) sndA_nil))))) sndA_nil))))) (.inl ⟨rfl, rfl⟩) (.inr ⟨_, rfl, rfl, snd_int⟩)) (sa_e rfl rfl (s_ix rfl (so_v rfl) (so_e rfl snd_int)) sndA_nil))))) sndB_nil) (sndB_cons (sndS_ife (SndW.t (sw_and1 (t_cmp rfl (so_v rfl) (so_e rfl snd_int)) (t_cmp rfl (so_e rfl (s_b1 B rfl rfl rfl (so_v rfl))) (so_e rfl snd_int)))) (sndB_cons (sndS_ret (s_add (so_e rfl (s_add (so_e rfl (s_slc (so_v rfl) (.inl ⟨rfl, rfl⟩) (.inr ⟨_, rfl, rfl, (snd_var rfl)⟩))) (so_e rfl (snd_tup (sa_e rfl rfl (snd_var rfl) sndA_nil))))) (so_e rfl (s_slc (so_v rfl) (.inr ⟨_, rfl, rfl, (snd_var rfl)⟩) (.inl ⟨rfl, rfl⟩))))) sndB_nil) (sndB_cons (sndS_asgN pr_cfg rfl rfl rfl (snd_call (fi := ⟨"_law_draw", fa 8, fdd 8, ["tape", "many"]⟩) F rfl rfl rfl rfl rfl rfl (sa_b rfl (sa_e rfl rfl (s_b1 B rfl rfl rfl (so_v rfl)) sndA_nil)))) (sndB_cons (sndS_asgN pr_cfg rfl rfl rfl (s_b1 B rfl rfl rfl (so_v rfl))) (sndB_cons (sndS_sti rfl rfl rfl (snd_var rfl) (s_ix rfl (so_v rfl) (so_v rfl))) (sndB_cons (sndS_sti rfl rfl rfl (snd_var rfl) (snd_var rfl)) (sndB_cons (sndS_ret (s_b1 B rfl rfl rfl (so_v rfl))) sndB_nil)))))) sndB_nil)) sndB_nil)) sndB_nil)) sndB_nil)) (sndB_cons (sndS_ret (s_add (so_e rfl (s_add (so_e rfl (s_slc (so_v rfl) (.inl ⟨rfl, rfl⟩) (.inr ⟨_, rfl, rfl, (snd_var rfl)⟩))) (so_e rfl (snd_tup (sa_e rfl rfl (snd_var rfl) sndA_nil))))) (so_e rfl (s_slc (so_v rfl) (.inr ⟨_, rfl, rfl, (s_add (so_v rfl) (so_e rfl snd_int))⟩) (.inl ⟨rfl, rfl⟩))))) sndB_nil))))))
set_option maxHeartbeats 0 in
theorem b20 (B : BltOk (cfgOf P w K mg base (defScope s20) n20 d20.pr k exA)) (F : FtOk (cfgOf P w K mg base (defScope s20) n20 d20.pr k exA) Φ (ft fa fdd) tt) (W : WX) : SndB (cfgOf P w K mg base (defScope s20) n20 d20.pr k exA) W (defBody s20) (evB Φ (shsOf tt) d20.body) :=
  (sndB_cons (sndS_asgN pr_cfg rfl rfl rfl (snd_lst sndA_nil)) (by exact (sndB_cons (sndS_asgN pr_cfg rfl rfl rfl (s_ix rfl (so_e rfl (snd_lst (sa_e rfl rfl snd_int (sa_e rfl rfl snd_int (sa_e rfl rfl snd_int sndA_nil))))) (so_e rfl (snd_call (fi := ⟨"_law_draw", fa 8, fdd 8, ["tape", "many"]⟩) F rfl rfl rfl rfl rfl rfl (sa_b rfl (sa_e rfl rfl snd_int sndA_nil)))))) (by exact (sndB_kill (sndB_cons (sndS_for pr_cfg rfl (ninOf rfl) rfl (sndI_rng1 rfl (B "range" (by decide)) rfl (sa_e rfl rfl (snd_call (fi := ⟨"_law_draw", fa 8, fdd 8, ["tape", "many"]⟩) F rfl rfl rfl rfl rfl rfl (sa_b rfl (sa_e rfl rfl (s_add (so_v rfl) (so_e rfl snd_int)) sndA_nil))) sndA_nil) rfl) (sndB_cons (sndS_asgN pr_cfg rfl rfl rfl (snd_call (fi := ⟨"_law_draw", fa 8, fdd 8, ["tape", "many"]⟩) F rfl rfl rfl rfl rfl rfl (sa_b rfl (sa_e rfl rfl (snd_var rfl) sndA_nil)))) (by exact (sndB_cons (sndS_asgN pr_cfg rfl rfl rfl (snd_call (fi := ⟨"_law_lines", fa 11, fdd 11, ["tape", "menu", "most"]⟩) F rfl rfl rfl rfl rfl rfl (sa_b rfl (sa_e rfl rfl (snd_var rfl) (sa_e rfl rfl (s_ix rfl (so_e rfl (snd_lst (snd_ints (ns := [0, 1, 2, 6]) rfl))) (so_e rfl (snd_call (fi := ⟨"_law_draw", fa 8, fdd 8, ["tape", "many"]⟩) F rfl rfl rfl rfl rfl rfl (sa_b rfl (sa_e rfl rfl snd_int sndA_nil))))) sndA_nil))))) (by exact (sndB_cons (sndS_asgN pr_cfg rfl rfl rfl (snd_tup (sa_e rfl rfl (snd_var rfl) (sa_e rfl rfl (snd_var rfl) (sa_e rfl rfl (snd_call (fi := ⟨"_law_lines", fa 11, fdd 11, ["tape", "menu", "most"]⟩) F rfl rfl rfl rfl rfl rfl (sa_b rfl (sa_e rfl rfl (snd_var rfl) (sa_e rfl rfl (s_ix rfl (so_e rfl (snd_lst (snd_ints (ns := [0, 1, 2, 6]) rfl))) (so_e rfl (snd_call (fi := ⟨"_law_draw", fa 8, fdd 8, ["tape", "many"]⟩) F rfl rfl rfl rfl rfl rfl (sa_b rfl (sa_e rfl rfl snd_int sndA_nil))))) sndA_nil)))) sndA_nil))))) (by exact (sndB_cons (sndS_ife (SndW.t (sw_and1 (sndT_truth rfl (so_v rfl)) (t_cmp rfl (so_e rfl (snd_call (fi := ⟨"_law_draw", fa 8, fdd 8, ["tape", "many"]⟩) F rfl rfl rfl rfl rfl rfl (sa_b rfl (sa_e rfl rfl snd_int sndA_nil)))) (so_e rfl snd_int)))) (sndB_cons (sndS_asgN pr_cfg rfl rfl rfl (s_ix rfl (so_v rfl) (so_e rfl (snd_call (fi := ⟨"_law_draw", fa 8, fdd 8, ["tape", "many"]⟩) F rfl rfl rfl rfl rfl rfl (sa_b rfl (sa_e rfl rfl (s_b1 B rfl rfl rfl (so_v rfl)) sndA_nil)))))) (sndB_kill sndB_nil)) (sndB_kill sndB_nil)) (by exact (sndB_cons (sndS_expr rfl (s_app rfl rfl rfl (by decide) (sa_e rfl rfl (snd_var rfl) sndA_nil))) (by exact (sndB_kill sndB_nil)))))))))))) (by exact (sndB_cons (sndS_ret (s_b1 B rfl rfl rfl (so_v rfl))) (by exact sndB_nil)))))))))
set_option maxHeartbeats 0 in
theorem b21 (B : BltOk (cfgOf P w K mg base (defScope s21) n21 d21.pr k exA)) (F : FtOk (cfgOf P w K mg base (defScope s21) n21 d21.pr k exA) Φ (ft fa fdd) tt) (W : WX) : SndB (cfgOf P w K mg base (defScope s21) n21 d21.pr k exA) W (defBody s21) (evB Φ (shsOf tt) d21.body) :=
  (sndB_cons (sndS_asgN pr_cfg rfl rfl rfl (snd_call (fi := ⟨"_law_draw", fa 8, fdd 8, ["tape", "many"]⟩) F rfl rfl rfl rfl rfl rfl (sa_b rfl (sa_e rfl rfl snd_int sndA_nil)))) (sndB_cons (sndS_ife (t_cmp rfl (so_v rfl) (so_e rfl snd_int)) (sndB_cons (sndS_ret (snd_call (fi := ⟨"_law_wild_edits", fa 20, fdd 20, ["tape", "menu", "most"]⟩) F rfl rfl rfl rfl rfl rfl (sa_b rfl (sa_e rfl rfl (snd_var rfl) (sa_e rfl rfl (s_ix rfl (so_e rfl (snd_lst (sa_e rfl rfl snd_int (sa_e rfl rfl snd_int sndA_nil)))) (so_e rfl (snd_call (fi := ⟨"_law_draw", fa 8, fdd 8, ["tape", "many"]⟩) F rfl rfl rfl rfl rfl rfl (sa_b rfl (sa_e rfl rfl snd_int sndA_nil))))) sndA_nil))))) sndB_nil) sndB_nil) (sndB_cons (sndS_ife (t_cmp rfl (so_v rfl) (so_e rfl snd_int)) (sndB_cons (sndS_asgN pr_cfg rfl rfl rfl (snd_call (fi := ⟨"_law_fit_edits", fa 17, fdd 17, ["tape", "menu", "lines", "most", "room"]⟩) F rfl rfl rfl rfl rfl rfl (sa_b rfl (sa_e rfl rfl (snd_var rfl) (sa_e rfl rfl (snd_var rfl) (sa_e rfl rfl snd_int (sa_e rfl rfl snd_int sndA_nil))))))) (sndB_kill sndB_nil)) (sndB_cons (sndS_asgN pr_cfg rfl rfl rfl (snd_call (fi := ⟨"_law_loose_edits", fa 18, fdd 18, ["tape", "menu", "lines", "most"]⟩) F rfl rfl rfl rfl rfl rfl (sa_b rfl (sa_e rfl rfl (snd_var rfl) (sa_e rfl rfl (snd_var rfl) (sa_e rfl rfl (s_ix rfl (so_e rfl (snd_lst (sa_e rfl rfl snd_int (sa_e rfl rfl snd_int sndA_nil)))) (so_e rfl (snd_call (fi := ⟨"_law_draw", fa 8, fdd 8, ["tape", "many"]⟩) F rfl rfl rfl rfl rfl rfl (sa_b rfl (sa_e rfl rfl snd_int sndA_nil))))) sndA_nil)))))) (sndB_kill sndB_nil))) (sndB_cons (sndS_ife (SndW.t (sw_or1 (t_cmp rfl (so_v rfl) (so_e rfl snd_int)) (t_cmp rfl (so_v rfl) (so_e rfl snd_int)))) (sndB_cons (sndS_asgN pr_cfg rfl rfl rfl (snd_call (fi := ⟨"_law_spoilt", fa 19, fdd 19, ["tape", "menu", "edits"]⟩) F rfl rfl rfl rfl rfl rfl (sa_b rfl (sa_e rfl rfl (snd_var rfl) (sa_e rfl rfl (snd_var rfl) sndA_nil))))) (sndB_kill sndB_nil)) (sndB_kill sndB_nil)) (sndB_cons (sndS_ret (snd_mov rfl)) sndB_nil)))))
set_option maxHeartbeats 0 in
theorem b22 (SG : SglOk (cfgOf P w K mg base (defScope s22) n22 d22.pr k exA) 0 "NotInOrder") (B : BltOk (cfgOf P w K mg base (defScope s22) n22 d22.pr k exA)) (F : FtOk (cfgOf P w K mg base (defScope s22) n22 d22.pr k exA) Φ (ft fa fdd) tt) (W : WX) : SndB (cfgOf P w K mg base (defScope s22) n22 d22.pr k exA) W (defBody s22) (evB Φ (shsOf tt) d22.body) :=
  (sndB_cons (sndS_tryR (n := "e") SG rfl rfl rfl rfl rfl rfl rfl rfl (fun _ => rfl) (fun _ => (snd_call (fi := ⟨"inverse_edits", fa 5, fdd 5, ["edits"]⟩) F rfl rfl rfl rfl rfl rfl (sa_e rfl rfl (snd_var rfl) sndA_nil)))) (sndB_cons (sndS_ret snd_bl) sndB_nil))
set_option maxHeartbeats 0 in
theorem b23 (B : BltOk (cfgOf P w K mg base (defScope s23) n23 d23.pr k exA)) (F : FtOk (cfgOf P w K mg base (defScope s23) n23 d23.pr k exA) Φ (ft fa fdd) tt) (W : WX) : SndB (cfgOf P w K mg base (defScope s23) n23 d23.pr k exA) W (defBody s23) (evB Φ (shsOf tt) d23.body) :=
  (sndB_cons (sndS_asgN pr_cfg rfl rfl rfl (snd_lst sndA_nil)) (sndB_cons (sndS_asgN pr_cfg rfl rfl rfl snd_int) (sndB_kill (sndB_cons (sndS_for pr_cfg rfl (ninOf rfl) rfl (sndI_seq rfl (snd_var rfl)) (sndB_cons (sndS_expr rfl (s_app rfl rfl rfl (by decide) (sa_e rfl rfl (snd_tup (sa_e rfl rfl (s_add (so_e rfl (s_ix rfl (so_v rfl) (so_e rfl snd_int))) (so_v rfl)) (sa_e rfl rfl (s_ix rfl (so_v rfl) (so_e rfl snd_int)) (sa_e rfl rfl (s_ix rfl (so_v rfl) (so_e rfl snd_int)) sndA_nil)))) sndA_nil))) (sndB_cons (sndS_asgN pr_cfg rfl rfl rfl (s_sub (so_e rfl (s_add (so_v rfl) (so_e rfl (s_b1 B rfl rfl rfl (so_e rfl (s_ix rfl (so_v rfl) (so_e rfl snd_int))))))) (so_e rfl (s_b1 B rfl rfl rfl (so_e rfl (s_ix rfl (so_v rfl) (so_e rfl snd_int))))))) (sndB_kill sndB_nil)))) (sndB_cons (sndS_ret (s_b1 B rfl rfl rfl (so_v rfl))) sndB_nil)))))
set_option maxHeartbeats 0 in
theorem b24 (B : BltOk (cfgOf P w K mg base (defScope s24) n24 d24.pr k exA)) (F : FtOk (cfgOf P w K mg base (defScope s24) n24 d24.pr k exA) Φ (ft fa fdd) tt) (W : WX) : SndB (cfgOf P w K mg base (defScope s24) n24 d24.pr k exA) W (defBody s24) (evB Φ (shsOf tt) d24.body) :=
  (sndB_cons (sndS_asgN pr_cfg rfl rfl rfl (snd_call (fi := ⟨"_law_tape", fa 7, fdd 7, ["script"]⟩) F rfl rfl rfl rfl rfl rfl (sa_e rfl rfl (snd_var rfl) sndA_nil))) (sndB_cons (sndS_asgN pr_cfg rfl rfl rfl (snd_call (fi := ⟨"_law_menu", fa 10, fdd 10, ["tape"]⟩) F rfl rfl rfl rfl rfl rfl (sa_b rfl sndA_nil))) (sndB_cons (sndS_asgN pr_cfg rfl rfl rfl (snd_call (fi := ⟨"_law_row", fa 12, fdd 12, ["tape", "menu"]⟩) F rfl rfl rfl rfl rfl rfl (sa_b rfl (sa_e rfl rfl (snd_var rfl) sndA_nil)))) (sndB_cons (sndS_asgN pr_cfg rfl rfl rfl (s_slc (so_v rfl) (.inl ⟨rfl, rfl⟩) (.inr ⟨_, rfl, rfl, snd_int⟩))) (sndB_cons (sndS_asgN pr_cfg rfl rfl rfl (snd_call (fi := ⟨"_law_some_edits", fa 21, fdd 21, ["tape", "menu", "lines"]⟩) F rfl rfl rfl rfl rfl rfl (sa_b rfl (sa_e rfl rfl (snd_var rfl) (sa_e rfl rfl (snd_var rfl) sndA_nil))))) (sndB_cons (sndS_ife (sndT_not (sndT_truth rfl (so_e rfl (snd_call (fi := ⟨"_law_ordered", fa 14, fdd 14, ["edits"]⟩) F rfl rfl rfl rfl rfl rfl (sa_e rfl rfl (snd_var rfl) sndA_nil))))) (sndB_kill (sndB_cons (sndS_for pr_cfg rfl (ninOf rfl) rfl (sndI_rng1 rfl (B "range" (by decide)) rfl (sa_e rfl rfl snd_int sndA_nil) rfl) (sndB_cons (sndS_ife (SndW.t (sw_or1 (sndT_not (sndT_truth rfl (so_e rfl (snd_call (fi := ⟨"_law_same", fa 9, fdd 9, ["actual", "expected"]⟩) F rfl rfl rfl rfl rfl rfl (sa_e rfl rfl (snd_call (fi := ⟨"inverse_edits", fa 5, fdd 5, ["edits"]⟩) F rfl rfl rfl rfl rfl rfl (sa_e rfl rfl (s_slc (so_v rfl) (.inl ⟨rfl, rfl⟩) (.inr ⟨_, rfl, rfl, snd_int⟩)) sndA_nil)) (sa_e rfl rfl (snd_call (fi := ⟨"_law_due", fa 23, fdd 23, ["edits"]⟩) F rfl rfl rfl rfl rfl rfl (sa_e rfl rfl (s_slc (so_v rfl) (.inl ⟨rfl, rfl⟩) (.inr ⟨_, rfl, rfl, snd_int⟩)) sndA_nil)) sndA_nil)))))) (sndT_not (sndT_truth rfl (so_e rfl (snd_call (fi := ⟨"_law_refused", fa 22, fdd 22, ["edits"]⟩) F rfl rfl rfl rfl rfl rfl (sa_e rfl rfl (snd_var rfl) sndA_nil))))))) (sndB_cons (sndS_ret snd_bl) sndB_nil) sndB_nil) (sndB_kill sndB_nil))) (sndB_cons (sndS_ret snd_bl) sndB_nil))) sndB_nil) (sndB_cons (sndS_asgN pr_cfg rfl rfl rfl (snd_call (fi := ⟨"inverse_edits", fa 5, fdd 5, ["edits"]⟩) F rfl rfl rfl rfl rfl rfl (sa_e rfl rfl (snd_var rfl) sndA_nil))) (sndB_cons (sndS_ife (SndW.t (sw_or1 (sndT_not (sndT_truth rfl (so_e rfl (snd_call (fi := ⟨"_law_same", fa 9, fdd 9, ["actual", "expected"]⟩) F rfl rfl rfl rfl rfl rfl (sa_e rfl rfl (snd_var rfl) (sa_e rfl rfl (snd_call (fi := ⟨"_law_due", fa 23, fdd 23, ["edits"]⟩) F rfl rfl rfl rfl rfl rfl (sa_e rfl rfl (snd_var rfl) sndA_nil)) sndA_nil)))))) (sndT_not (sndT_truth rfl (so_e rfl (snd_call (fi := ⟨"_law_same", fa 9, fdd 9, ["actual", "expected"]⟩) F rfl rfl rfl rfl rfl rfl (sa_e rfl rfl (snd_call (fi := ⟨"in_order", fa 2, fdd 2, ["edits"]⟩) F rfl rfl rfl rfl rfl rfl (sa_e rfl rfl (snd_var rfl) sndA_nil)) (sa_e rfl rfl snd_bl sndA_nil)))))))) (sndB_cons (sndS_ret snd_bl) sndB_nil) sndB_nil) (sndB_cons (sndS_ife (sndT_not (sndT_truth rfl (so_e rfl (snd_call (fi := ⟨"_law_same", fa 9, fdd 9, ["actual", "expected"]⟩) F rfl rfl rfl rfl rfl rfl (sa_e rfl rfl (snd_call (fi := ⟨"inverse_edits", fa 5, fdd 5, ["edits"]⟩) F rfl rfl rfl rfl rfl rfl (sa_e rfl rfl (snd_var rfl) sndA_nil)) (sa_e rfl rfl (snd_var rfl) sndA_nil)))))) (sndB_cons (sndS_ret snd_bl) sndB_nil) sndB_nil) (sndB_cons (sndS_asgN pr_cfg rfl rfl rfl (snd_call (fi := ⟨"apply_edits", fa 3, fdd 3, ["lines", "edits"]⟩) F rfl rfl rfl rfl rfl rfl (sa_e rfl rfl (snd_var rfl) (sa_e rfl rfl (snd_var rfl) sndA_nil)))) (sndB_cons (sndS_ife (sndT_not (sndT_truth rfl (so_e rfl (snd_call (fi := ⟨"_law_same", fa 9, fdd 9, ["actual", "expected"]⟩) F rfl rfl rfl rfl rfl rfl (sa_e rfl rfl (snd_var rfl) (sa_e rfl rfl (snd_call (fi := ⟨"_law_applied", fa 16, fdd 16, ["lines", "edits"]⟩) F rfl rfl rfl rfl rfl rfl (sa_e rfl rfl (snd_var rfl) (sa_e rfl rfl (snd_var rfl) sndA_nil))) sndA_nil)))))) (sndB_cons (sndS_ret snd_bl) sndB_nil) sndB_nil) (sndB_cons (sndS_ret (snd_orN (s_isN (so_v rfl)) (snd_one (snd_call (fi := ⟨"_law_same", fa 9, fdd 9, ["actual", "expected"]⟩) F rfl rfl rfl rfl rfl rfl (sa_e rfl rfl (snd_call (fi := ⟨"apply_edits", fa 3, fdd 3, ["lines", "edits"]⟩) F rfl rfl rfl rfl rfl rfl (sa_e rfl rfl (snd_var rfl) (sa_e rfl rfl (snd_var rfl) sndA_nil))) (sa_e rfl rfl (snd_var rfl) sndA_nil)))))) sndB_nil))))))))))))
end
end K28
set_option maxHeartbeats 4000000
namespace K28
open PySem PySem.Spec PyProof.Rows L2 LamX G
theorem c0 : FnScope n0 ["lines", "edit"] (defScope s0) := ⟨rfl, rfl, rfl, by decide +kernel, rfl, by decide +kernel, by decide +kernel⟩
theorem c1 : FnScope n1 ["edit"] (defScope s1) := ⟨rfl, rfl, rfl, by decide +kernel, rfl, by decide +kernel, by decide +kernel⟩
theorem c2 : FnScope n2 ["edits"] (defScope s2) := ⟨rfl, rfl, rfl, by decide +kernel, rfl, by decide +kernel, by decide +kernel⟩
theorem c3 : FnScope n3 ["lines", "edits"] (defScope s3) := ⟨rfl, rfl, rfl, by decide +kernel, rfl, by decide +kernel, by decide +kernel⟩
theorem c4 : FnScope n4 ["lines", "edits"] (defScope s4) := ⟨rfl, rfl, rfl, by decide +kernel, rfl, by decide +kernel, by decide +kernel⟩
theorem c5 : FnScope n5 ["edits"] (defScope s5) := ⟨rfl, rfl, rfl, by decide +kernel, rfl, by decide +kernel, by decide +kernel⟩
theorem c6 : FnScope n6 ["lines", "edits", "origin"] (defScope s6) := ⟨rfl, rfl, rfl, by decide +kernel, rfl, by decide +kernel, by decide +kernel⟩
theorem c7 : FnScope n7 ["script"] (defScope s7) := ⟨rfl, rfl, rfl, by decide +kernel, rfl, by decide +kernel, by decide +kernel⟩
theorem c8 : FnScope n8 ["tape", "many"] (defScope s8) := ⟨rfl, rfl, rfl, by decide +kernel, rfl, by decide +kernel, by decide +kernel⟩
theorem c9 : FnScope n9 ["actual", "expected"] (defScope s9) := ⟨rfl, rfl, rfl, by decide +kernel, rfl, by decide +kernel, by decide +kernel⟩
theorem c10 : FnScope n10 ["tape"] (defScope s10) := ⟨rfl, rfl, rfl, by decide +kernel, rfl, by decide +kernel, by decide +kernel⟩
theorem c11 : FnScope n11 ["tape", "menu", "most"] (defScope s11) := ⟨rfl, rfl, rfl, by decide +kernel, rfl, by decide +kernel, by decide +kernel⟩
theorem c12 : FnScope n12 ["tape", "menu"] (defScope s12) := ⟨rfl, rfl, rfl, by decide +kernel, rfl, by decide +kernel, by decide +kernel⟩
theorem c13 : FnScope n13 ["edit"] (defScope s13) := ⟨rfl, rfl, rfl, by decide +kernel, rfl, by decide +kernel, by decide +kernel⟩
theorem c14 : FnScope n14 ["edits"] (defScope s14) := ⟨rfl, rfl, rfl, by decide +kernel, rfl, by decide +kernel, by decide +kernel⟩
theorem c15 : FnScope n15 ["lines", "edit"] (defScope s15) := ⟨rfl, rfl, rfl, by decide +kernel, rfl, by decide +kernel, by decide +kernel⟩
theorem c16 : FnScope n16 ["lines", "edits"] (defScope s16) := ⟨rfl, rfl, rfl, by decide +kernel, rfl, by decide +kernel, by decide +kernel⟩
theorem c17 : FnScope n17 ["tape", "menu", "lines", "most", "room"] (defScope s17) := ⟨rfl, rfl, rfl, by decide +kernel, rfl, by decide +kernel, by decide +kernel⟩
theorem c18 : FnScope n18 ["tape", "menu", "lines", "most"] (defScope s18) := ⟨rfl, rfl, rfl, by decide +kernel, rfl, by decide +kernel, by decide +kernel⟩
theorem c19 : FnScope n19 ["tape", "menu", "edits"] (defScope s19) := ⟨rfl, rfl, rfl, by decide +kernel, rfl, by decide +kernel, by decide +kernel⟩
theorem c20 : FnScope n20 ["tape", "menu", "most"] (defScope s20) := ⟨rfl, rfl, rfl, by decide +kernel, rfl, by decide +kernel, by decide +kernel⟩
theorem c21 : FnScope n21 ["tape", "menu", "lines"] (defScope s21) := ⟨rfl, rfl, rfl, by decide +kernel, rfl, by decide +kernel, by decide +kernel⟩
theorem c22 : FnScope n22 ["edits"] (defScope s22) := ⟨rfl, rfl, rfl, by decide +kernel, rfl, by decide +kernel, by decide +kernel⟩
theorem c23 : FnScope n23 ["edits"] (defScope s23) := ⟨rfl, rfl, rfl, by decide +kernel, rfl, by decide +kernel, by decide +kernel⟩
theorem c24 : FnScope n24 ["script"] (defScope s24) := ⟨rfl, rfl, rfl, by decide +kernel, rfl, by decide +kernel, by decide +kernel⟩
def dfs : List Df := [d0, d1, d2, d3, d4, d5, d6, d7, d8, d9, d10, d11, d12, d13, d14, d15, d16, d17, d18, d19, d20, d21, d22, d23, d24]
section
variable {P : Program} {w : World} {K : PySem.W.Frag} {mg : Str → Option Value} {base : Heap} {fa : Nat → Addr} {fdd : Nat → FuncData}
theorem sh_all (e0 : ShOk K (fdd 0) ["lines", "edit"] [] 2 ((List.range 2).map .inl)) (e1 : ShOk K (fdd 1) ["edit"] [] 1 ((List.range 1).map .inl)) (e2 : ShOk K (fdd 2) ["edits"] [] 1 ((List.range 1).map .inl)) (e3 : ShOk K (fdd 3) ["lines", "edits"] [] 2 ((List.range 2).map .inl)) (e4 : ShOk K (fdd 4) ["lines", "edits"] [] 2 ((List.range 2).map .inl)) (e5 : ShOk K (fdd 5) ["edits"] [] 1 ((List.range 1).map .inl)) (e6 : ShOk K (fdd 6) ["lines", "edits", "origin"] [] 3 ((List.range 3).map .inl)) (e7 : ShOk K (fdd 7) ["script"] [] 1 ((List.range 1).map .inl)) (e8 : ShOk K (fdd 8) ["tape", "many"] [] 2 ((List.range 2).map .inl)) (e9 : ShOk K (fdd 9) ["actual", "expected"] [] 2 ((List.range 2).map .inl)) (e10 : ShOk K (fdd 10) ["tape"] [] 1 ((List.range 1).map .inl)) (e11 : ShOk K (fdd 11) ["tape", "menu", "most"] [] 3 ((List.range 3).map .inl)) (e12 : ShOk K (fdd 12) ["tape", "menu"] [] 2 ((List.range 2).map .inl)) (e13 : ShOk K (fdd 13) ["edit"] [] 1 ((List.range 1).map .inl)) (e14 : ShOk K (fdd 14) ["edits"] [] 1 ((List.range 1).map .inl)) (e15 : ShOk K (fdd 15) ["lines", "edit"] [] 2 ((List.range 2).map .inl)) (e16 : ShOk K (fdd 16) ["lines", "edits"] [] 2 ((List.range 2).map .inl)) (e17 : ShOk K (fdd 17) ["tape", "menu", "lines", "most", "room"] [] 5 ((List.range 5).map .inl)) (e18 : ShOk K (fdd 18) ["tape", "menu", "lines", "most"] [] 4 ((List.range 4).map .inl)) (e19 : ShOk K (fdd 19) ["tape", "menu", "edits"] [] 3 ((List.range 3).map .inl)) (e20 : ShOk K (fdd 20) ["tape", "menu", "most"] [] 3 ((List.range 3).map .inl)) (e21 : ShOk K (fdd 21) ["tape", "menu", "lines"] [] 3 ((List.range 3).map .inl)) (e22 : ShOk K (fdd 22) ["edits"] [] 1 ((List.range 1).map .inl)) (e23 : ShOk K (fdd 23) ["edits"] [] 1 ((List.range 1).map .inl)) (e24 : ShOk K (fdd 24) ["script"] [] 1 ((List.range 1).map .inl)) : ∀ i fi j np ks sh, ft fa fdd i = some fi → tt i j = some (np, ks, sh) → ShOk K fi.fd fi.ps ks np sh := by
  intro i fi j np ks sh h1 h2
  match i, j, h1, h2 with
  | 0, 0, h1, h2 => cases h1; cases h2; exact e0
  | 0, j + 1, h1, h2 => simp [tt, tab] at h2
  | 1, 0, h1, h2 => cases h1; cases h2; exact e1
  | 1, j + 1, h1, h2 => simp [tt, tab] at h2
  | 2, 0, h1, h2 => cases h1; cases h2; exact e2
  | 2, j + 1, h1, h2 => simp [tt, tab] at h2
  | 3, 0, h1, h2 => cases h1; cases h2; exact e3
  | 3, j + 1, h1, h2 => simp [tt, tab] at h2
  | 4, 0, h1, h2 => cases h1; cases h2; exact e4
  | 4, j + 1, h1, h2 => simp [tt, tab] at h2
  | 5, 0, h1, h2 => cases h1; cases h2; exact e5
  | 5, j + 1, h1, h2 => simp [tt, tab] at h2
  | 6, 0, h1, h2 => cases h1; cases h2; exact e6
  | 6, j + 1, h1, h2 => simp [tt, tab] at h2
  | 7, 0, h1, h2 => cases h1; cases h2; exact e7
  | 7, j + 1, h1, h2 => simp [tt, tab] at h2
  | 8, 0, h1, h2 => cases h1; cases h2; exact e8
  | 8, j + 1, h1, h2 => simp [tt, tab] at h2
  | 9, 0, h1, h2 => cases h1; cases h2; exact e9
  | 9, j + 1, h1, h2 => simp [tt, tab] at h2
  | 10, 0, h1, h2 => cases h1; cases h2; exact e10
  | 10, j + 1, h1, h2 => simp [tt, tab] at h2
  | 11, 0, h1, h2 => cases h1; cases h2; exact e11
  | 11, j + 1, h1, h2 => simp [tt, tab] at h2
  | 12, 0, h1, h2 => cases h1; cases h2; exact e12
  | 12, j + 1, h1, h2 => simp [tt, tab] at h2
  | 13, 0, h1, h2 => cases h1; cases h2; exact e13
  | 13, j + 1, h1, h2 => simp [tt, tab] at h2
  | 14, 0, h1, h2 => cases h1; cases h2; exact e14
  | 14, j + 1, h1, h2 => simp [tt, tab] at h2
  | 15, 0, h1, h2 => cases h1; cases h2; exact e15
  | 15, j + 1, h1, h2 => simp [tt, tab] at h2
  | 16, 0, h1, h2 => cases h1; cases h2; exact e16
  | 16, j + 1, h1, h2 => simp [tt, tab] at h2
  | 17, 0, h1, h2 => cases h1; cases h2; exact e17
  | 17, j + 1, h1, h2 => simp [tt, tab] at h2
  | 18, 0, h1, h2 => cases h1; cases h2; exact e18
  | 18, j + 1, h1, h2 => simp [tt, tab] at h2
  | 19, 0, h1, h2 => cases h1; cases h2; exact e19
  | 19, j + 1, h1, h2 => simp [tt, tab] at h2
  | 20, 0, h1, h2 => cases h1; cases h2; exact e20
  | 20, j + 1, h1, h2 => simp [tt, tab] at h2
  | 21, 0, h1, h2 => cases h1; cases h2; exact e21
  | 21, j + 1, h1, h2 => simp [tt, tab] at h2
  | 22, 0, h1, h2 => cases h1; cases h2; exact e22
  | 22, j + 1, h1, h2 => simp [tt, tab] at h2
  | 23, 0, h1, h2 => cases h1; cases h2; exact e23
  | 23, j + 1, h1, h2 => simp [tt, tab] at h2
  | 24, 0, h1, h2 => cases h1; cases h2; exact e24
  | 24, j + 1, h1, h2 => simp [tt, tab] at h2
  | i + 25, j, h1, h2 => simp [ft, nms] at h1
variable [Tb]
abbrev c00 (xc : Addr) (P : Program) (w : World) (K : PySem.W.Frag) (mg : Str → Option Value) (base : Heap) (k : Nat) : Cfg := cfgOf P w K mg base (defScope s0) [] [] k (exOf xc)
theorem up0 {j k : Nat} {xc : Addr} (RO : ∀ sc N pr k cd, RaiseOk (cfgOf P w K mg base sc N pr k (exOf xc) cd) "NotInOrder" xc) (SG : ∀ sc N pr k cd, SglOk (cfgOf P w K mg base sc N pr k (exOf xc) cd) 0 "NotInOrder") (F : Fun K "applies" "applies" s0 (fa 0) (fdd 0)) (B : ∀ x ∈ bnames, mg x = none) (T : FtOk (c00 xc P w K mg base k) (calls dfs (shsOf tt) j) (ft fa fdd) tt) : FnOk P w K mg base (L2.CX P w) (k + 2) (fa 0) (fdd 0) ["lines", "edit"] (spOf (c00 xc P w K mg base (k + 2)) (calls dfs (shsOf tt) (j + 1)) 0 2) :=
  df_ok (cd := none) (C0 := c00 xc P w K mg base (k + 2)) (exA := (exOf xc)) (d := d0) (Φ := calls dfs (shsOf tt) j) (shs := shsOf tt) rfl rfl F (fun q h => nomatch h) c0 rfl (fun W => b0 B (ft_move T) W) (fun ss => calls_succ rfl)
theorem up1 {j k : Nat} {xc : Addr} (RO : ∀ sc N pr k cd, RaiseOk (cfgOf P w K mg base sc N pr k (exOf xc) cd) "NotInOrder" xc) (SG : ∀ sc N pr k cd, SglOk (cfgOf P w K mg base sc N pr k (exOf xc) cd) 0 "NotInOrder") (F : Fun K "end_of" "end_of" s1 (fa 1) (fdd 1)) (B : ∀ x ∈ bnames, mg x = none) (T : FtOk (c00 xc P w K mg base k) (calls dfs (shsOf tt) j) (ft fa fdd) tt) : FnOk P w K mg base (L2.CX P w) (k + 2) (fa 1) (fdd 1) ["edit"] (spOf (c00 xc P w K mg base (k + 2)) (calls dfs (shsOf tt) (j + 1)) 1 1) :=
  df_ok (cd := none) (C0 := c00 xc P w K mg base (k + 2)) (exA := (exOf xc)) (d := d1) (Φ := calls dfs (shsOf tt) j) (shs := shsOf tt) rfl rfl F (fun q h => nomatch h) c1 rfl (fun W => b1 B (ft_move T) W) (fun ss => calls_succ rfl)
theorem up2 {j k : Nat} {xc : Addr} (RO : ∀ sc N pr k cd, RaiseOk (cfgOf P w K mg base sc N pr k (exOf xc) cd) "NotInOrder" xc) (SG : ∀ sc N pr k cd, SglOk (cfgOf P w K mg base sc N pr k (exOf xc) cd) 0 "NotInOrder") (F : Fun K "in_order" "in_order" s2 (fa 2) (fdd 2)) (B : ∀ x ∈ bnames, mg x = none) (T : FtOk (c00 xc P w K mg base k) (calls dfs (shsOf tt) j) (ft fa fdd) tt) : FnOk P w K mg base (L2.CX P w) (k + 2) (fa 2) (fdd 2) ["edits"] (spOf (c00 xc P w K mg base (k + 2)) (calls dfs (shsOf tt) (j + 1)) 2 1) :=
  df_ok (cd := none) (C0 := c00 xc P w K mg base (k + 2)) (exA := (exOf xc)) (d := d2) (Φ := calls dfs (shsOf tt) j) (shs := shsOf tt) rfl rfl F (fun q h => nomatch h) c2 rfl (fun W => b2 B (ft_move T) W) (fun ss => calls_succ rfl)
theorem up3 {j k : Nat} {xc : Addr} (RO : ∀ sc N pr k cd, RaiseOk (cfgOf P w K mg base sc N pr k (exOf xc) cd) "NotInOrder" xc) (SG : ∀ sc N pr k cd, SglOk (cfgOf P w K mg base sc N pr k (exOf xc) cd) 0 "NotInOrder") (F : Fun K "apply_edits" "apply_edits" s3 (fa 3) (fdd 3)) (B : ∀ x ∈ bnames, mg x = none) (T : FtOk (c00 xc P w K mg base k) (calls dfs (shsOf tt) j) (ft fa fdd) tt) : FnOk P w K mg base (L2.CX P w) (k + 2) (fa 3) (fdd 3) ["lines", "edits"] (spOf (c00 xc P w K mg base (k + 2)) (calls dfs (shsOf tt) (j + 1)) 3 2) :=
  df_ok (cd := none) (C0 := c00 xc P w K mg base (k + 2)) (exA := (exOf xc)) (d := d3) (Φ := calls dfs (shsOf tt) j) (shs := shsOf tt) rfl rfl F (fun q h => nomatch h) c3 rfl (fun W => b3 B (ft_move T) W) (fun ss => calls_succ rfl)
theorem up4 {j k : Nat} {xc : Addr} (RO : ∀ sc N pr k cd, RaiseOk (cfgOf P w K mg base sc N pr k (exOf xc) cd) "NotInOrder" xc) (SG : ∀ sc N pr k cd, SglOk (cfgOf P w K mg base sc N pr k (exOf xc) cd) 0 "NotInOrder") (F : Fun K "line_origins" "line_origins" s4 (fa 4) (fdd 4)) (B : ∀ x ∈ bnames, mg x = none) (T : FtOk (c00 xc P w K mg base k) (calls dfs (shsOf tt) j) (ft fa fdd) tt) : FnOk P w K mg base (L2.CX P w) (k + 2) (fa 4) (fdd 4) ["lines", "edits"] (spOf (c00 xc P w K mg base (k + 2)) (calls dfs (shsOf tt) (j + 1)) 4 2) :=
  df_ok (cd := none) (C0 := c00 xc P w K mg base (k + 2)) (exA := (exOf xc)) (d := d4) (Φ := calls dfs (shsOf tt) j) (shs := shsOf tt) rfl rfl F (fun q h => nomatch h) c4 rfl (fun W => b4 B (ft_move T) W) (fun ss => calls_succ rfl)
theorem up5 {j k : Nat} {xc : Addr} (RO : ∀ sc N pr k cd, RaiseOk (cfgOf P w K mg base sc N pr k (exOf xc) cd) "NotInOrder" xc) (SG : ∀ sc N pr k cd, SglOk (cfgOf P w K mg base sc N pr k (exOf xc) cd) 0 "NotInOrder") (F : Fun K "inverse_edits" "inverse_edits" s5 (fa 5) (fdd 5)) (B : ∀ x ∈ bnames, mg x = none) (T : FtOk (c00 xc P w K mg base k) (calls dfs (shsOf tt) j) (ft fa fdd) tt) : FnOk P w K mg base (L2.CX P w) (k + 2) (fa 5) (fdd 5) ["edits"] (spOf (c00 xc P w K mg base (k + 2)) (calls dfs (shsOf tt) (j + 1)) 5 1) :=
  df_ok (cd := none) (C0 := c00 xc P w K mg base (k + 2)) (exA := (exOf xc)) (d := d5) (Φ := calls dfs (shsOf tt) j) (shs := shsOf tt) rfl rfl F (fun q h => nomatch h) c5 rfl (fun W => b5 (RO _ _ _ _ _) rfl B (ft_move T) W) (fun ss => calls_succ rfl)
theorem up6 {j k : Nat} {xc : Addr} (RO : ∀ sc N pr k cd, RaiseOk (cfgOf P w K mg base sc N pr k (exOf xc) cd) "NotInOrder" xc) (SG : ∀ sc N pr k cd, SglOk (cfgOf P w K mg base sc N pr k (exOf xc) cd) 0 "NotInOrder") (F : Fun K "_line_from" "_line_from" s6 (fa 6) (fdd 6)) (B : ∀ x ∈ bnames, mg x = none) (T : FtOk (c00 xc P w K mg base k) (calls dfs (shsOf tt) j) (ft fa fdd) tt) : FnOk P w K mg base (L2.CX P w) (k + 2) (fa 6) (fdd 6) ["lines", "edits", "origin"] (spOf (c00 xc P w K mg base (k + 2)) (calls dfs (shsOf tt) (j + 1)) 6 3) :=
  df_ok (cd := none) (C0 := c00 xc P w K mg base (k + 2)) (exA := (exOf xc)) (d := d6) (Φ := calls dfs (shsOf tt) j) (shs := shsOf tt) rfl rfl F (fun q h => nomatch h) c6 rfl (fun W => b6 B (ft_move T) W) (fun ss => calls_succ rfl)
theorem up7 {j k : Nat} {xc : Addr} (RO : ∀ sc N pr k cd, RaiseOk (cfgOf P w K mg base sc N pr k (exOf xc) cd) "NotInOrder" xc) (SG : ∀ sc N pr k cd, SglOk (cfgOf P w K mg base sc N pr k (exOf xc) cd) 0 "NotInOrder") (F : Fun K "_law_tape" "_law_tape" s7 (fa 7) (fdd 7)) (B : ∀ x ∈ bnames, mg x = none) (T : FtOk (c00 xc P w K mg base k) (calls dfs (shsOf tt) j) (ft fa fdd) tt) : FnOk P w K mg base (L2.CX P w) (k + 2) (fa 7) (fdd 7) ["script"] (spOf (c00 xc P w K mg base (k + 2)) (calls dfs (shsOf tt) (j + 1)) 7 1) :=
  df_ok (cd := none) (C0 := c00 xc P w K mg base (k + 2)) (exA := (exOf xc)) (d := d7) (Φ := calls dfs (shsOf tt) j) (shs := shsOf tt) rfl rfl F (fun q h => nomatch h) c7 rfl (fun W => b7 B (ft_move T) W) (fun ss => calls_succ rfl)
theorem up8 {j k : Nat} {xc : Addr} (RO : ∀ sc N pr k cd, RaiseOk (cfgOf P w K mg base sc N pr k (exOf xc) cd) "NotInOrder" xc) (SG : ∀ sc N pr k cd, SglOk (cfgOf P w K mg base sc N pr k (exOf xc) cd) 0 "NotInOrder") (F : Fun K "_law_draw" "_law_draw" s8 (fa 8) (fdd 8)) (B : ∀ x ∈ bnames, mg x = none) (T : FtOk (c00 xc P w K mg base k) (calls dfs (shsOf tt) j) (ft fa fdd) tt) : FnOk P w K mg base (L2.CX P w) (k + 2) (fa 8) (fdd 8) ["tape", "many"] (spOf (c00 xc P w K mg base (k + 2)) (calls dfs (shsOf tt) (j + 1)) 8 2) :=
  df_ok (cd := none) (C0 := c00 xc P w K mg base (k + 2)) (exA := (exOf xc)) (d := d8) (Φ := calls dfs (shsOf tt) j) (shs := shsOf tt) rfl rfl F (fun q h => nomatch h) c8 rfl (fun W => b8 B (ft_move T) W) (fun ss => calls_succ rfl)
theorem up9 {j k : Nat} {xc : Addr} (RO : ∀ sc N pr k cd, RaiseOk (cfgOf P w K mg base sc N pr k (exOf xc) cd) "NotInOrder" xc) (SG : ∀ sc N pr k cd, SglOk (cfgOf P w K mg base sc N pr k (exOf xc) cd) 0 "NotInOrder") (F : Fun K "_law_same" "_law_same" s9 (fa 9) (fdd 9)) (B : ∀ x ∈ bnames, mg x = none) (T : FtOk (c00 xc P w K mg base k) (calls dfs (shsOf tt) j) (ft fa fdd) tt) : FnOk P w K mg base (L2.CX P w) (k + 2) (fa 9) (fdd 9) ["actual", "expected"] (spOf (c00 xc P w K mg base (k + 2)) (calls dfs (shsOf tt) (j + 1)) 9 2) :=
  df_ok (cd := none) (C0 := c00 xc P w K mg base (k + 2)) (exA := (exOf xc)) (d := d9) (Φ := calls dfs (shsOf tt) j) (shs := shsOf tt) rfl rfl F (fun q h => nomatch h) c9 rfl (fun W => b9 B (ft_move T) W) (fun ss => calls_succ rfl)
theorem up10 {j k : Nat} {xc : Addr} (RO : ∀ sc N pr k cd, RaiseOk (cfgOf P w K mg base sc N pr k (exOf xc) cd) "NotInOrder" xc) (SG : ∀ sc N pr k cd, SglOk (cfgOf P w K mg base sc N pr k (exOf xc) cd) 0 "NotInOrder") (F : Fun K "_law_menu" "_law_menu" s10 (fa 10) (fdd 10)) (B : ∀ x ∈ bnames, mg x = none) (T : FtOk (c00 xc P w K mg base k) (calls dfs (shsOf tt) j) (ft fa fdd) tt) : FnOk P w K mg base (L2.CX P w) (k + 2) (fa 10) (fdd 10) ["tape"] (spOf (c00 xc P w K mg base (k + 2)) (calls dfs (shsOf tt) (j + 1)) 10 1) :=
  df_ok (cd := none) (C0 := c00 xc P w K mg base (k + 2)) (exA := (exOf xc)) (d := d10) (Φ := calls dfs (shsOf tt) j) (shs := shsOf tt) rfl rfl F (fun q h => nomatch h) c10 rfl (fun W => b10 B (ft_move T) W) (fun ss => calls_succ rfl)
theorem up11 {j k : Nat} {xc : Addr} (RO : ∀ sc N pr k cd, RaiseOk (cfgOf P w K mg base sc N pr k (exOf xc) cd) "NotInOrder" xc) (SG : ∀ sc N pr k cd, SglOk (cfgOf P w K mg base sc N pr k (exOf xc) cd) 0 "NotInOrder") (F : Fun K "_law_lines" "_law_lines" s11 (fa 11) (fdd 11)) (B : ∀ x ∈ bnames, mg x = none) (T : FtOk (c00 xc P w K mg base k) (calls dfs (shsOf tt) j) (ft fa fdd) tt) : FnOk P w K mg base (L2.CX P w) (k + 2) (fa 11) (fdd 11) ["tape", "menu", "most"] (spOf (c00 xc P w K mg base (k + 2)) (calls dfs (shsOf tt) (j + 1)) 11 3) :=
  df_ok (cd := none) (C0 := c00 xc P w K mg base (k + 2)) (exA := (exOf xc)) (d := d11) (Φ := calls dfs (shsOf tt) j) (shs := shsOf tt) rfl rfl F (fun q h => nomatch h) c11 rfl (fun W => b11 B (ft_move T) W) (fun ss => calls_succ rfl)
theorem up12 {j k : Nat} {xc : Addr} (RO : ∀ sc N pr k cd, RaiseOk (cfgOf P w K mg base sc N pr k (exOf xc) cd) "NotInOrder" xc) (SG : ∀ sc N pr k cd, SglOk (cfgOf P w K mg base sc N pr k (exOf xc) cd) 0 "NotInOrder") (F : Fun K "_law_row" "_law_row" s12 (fa 12) (fdd 12)) (B : ∀ x ∈ bnames, mg x = none) (T : FtOk (c00 xc P w K mg base k) (calls dfs (shsOf tt) j) (ft fa fdd) tt) : FnOk P w K mg base (L2.CX P w) (k + 2) (fa 12) (fdd 12) ["tape", "menu"] (spOf (c00 xc P w K mg base (k + 2)) (calls dfs (shsOf tt) (j + 1)) 12 2) :=
  df_ok (cd := none) (C0 := c00 xc P w K mg base (k + 2)) (exA := (exOf xc)) (d := d12) (Φ := calls dfs (shsOf tt) j) (shs := shsOf tt) rfl rfl F (fun q h => nomatch h) c12 rfl (fun W => b12 B (ft_move T) W) (fun ss => calls_succ rfl)
theorem up13 {j k : Nat} {xc : Addr} (RO : ∀ sc N pr k cd, RaiseOk (cfgOf P w K mg base sc N pr k (exOf xc) cd) "NotInOrder" xc) (SG : ∀ sc N pr k cd, SglOk (cfgOf P w K mg base sc N pr k (exOf xc) cd) 0 "NotInOrder") (F : Fun K "_law_end" "_law_end" s13 (fa 13) (fdd 13)) (B : ∀ x ∈ bnames, mg x = none) (T : FtOk (c00 xc P w K mg base k) (calls dfs (shsOf tt) j) (ft fa fdd) tt) : FnOk P w K mg base (L2.CX P w) (k + 2) (fa 13) (fdd 13) ["edit"] (spOf (c00 xc P w K mg base (k + 2)) (calls dfs (shsOf tt) (j + 1)) 13 1) :=
  df_ok (cd := none) (C0 := c00 xc P w K mg base (k + 2)) (exA := (exOf xc)) (d := d13) (Φ := calls dfs (shsOf tt) j) (shs := shsOf tt) rfl rfl F (fun q h => nomatch h) c13 rfl (fun W => b13 B (ft_move T) W) (fun ss => calls_succ rfl)
theorem up14 {j k : Nat} {xc : Addr} (RO : ∀ sc N pr k cd, RaiseOk (cfgOf P w K mg base sc N pr k (exOf xc) cd) "NotInOrder" xc) (SG : ∀ sc N pr k cd, SglOk (cfgOf P w K mg base sc N pr k (exOf xc) cd) 0 "NotInOrder") (F : Fun K "_law_ordered" "_law_ordered" s14 (fa 14) (fdd 14)) (B : ∀ x ∈ bnames, mg x = none) (T : FtOk (c00 xc P w K mg base k) (calls dfs (shsOf tt) j) (ft fa fdd) tt) : FnOk P w K mg base (L2.CX P w) (k + 2) (fa 14) (fdd 14) ["edits"] (spOf (c00 xc P w K mg base (k + 2)) (calls dfs (shsOf tt) (j + 1)) 14 1) :=
  df_ok (cd := none) (C0 := c00 xc P w K mg base (k + 2)) (exA := (exOf xc)) (d := d14) (Φ := calls dfs (shsOf tt) j) (shs := shsOf tt) rfl rfl F (fun q h => nomatch h) c14 rfl (fun W => b14 B (ft_move T) W) (fun ss => calls_succ rfl)
theorem up15 {j k : Nat} {xc : Addr} (RO : ∀ sc N pr k cd, RaiseOk (cfgOf P w K mg base sc N pr k (exOf xc) cd) "NotInOrder" xc) (SG : ∀ sc N pr k cd, SglOk (cfgOf P w K mg base sc N pr k (exOf xc) cd) 0 "NotInOrder") (F : Fun K "_law_fits" "_law_fits" s15 (fa 15) (fdd 15)) (B : ∀ x ∈ bnames, mg x = none) (T : FtOk (c00 xc P w K mg base k) (calls dfs (shsOf tt) j) (ft fa fdd) tt) : FnOk P w K mg base (L2.CX P w) (k + 2) (fa 15) (fdd 15) ["lines", "edit"] (spOf (c00 xc P w K mg base (k + 2)) (calls dfs (shsOf tt) (j + 1)) 15 2) :=
  df_ok (cd := none) (C0 := c00 xc P w K mg base (k + 2)) (exA := (exOf xc)) (d := d15) (Φ := calls dfs (shsOf tt) j) (shs := shsOf tt) rfl rfl F (fun q h => nomatch h) c15 rfl (fun W => b15 B (ft_move T) W) (fun ss => calls_succ rfl)
theorem up16 {j k : Nat} {xc : Addr} (RO : ∀ sc N pr k cd, RaiseOk (cfgOf P w K mg base sc N pr k (exOf xc) cd) "NotInOrder" xc) (SG : ∀ sc N pr k cd, SglOk (cfgOf P w K mg base sc N pr k (exOf xc) cd) 0 "NotInOrder") (F : Fun K "_law_applied" "_law_applied" s16 (fa 16) (fdd 16)) (B : ∀ x ∈ bnames, mg x = none) (T : FtOk (c00 xc P w K mg base k) (calls dfs (shsOf tt) j) (ft fa fdd) tt) : FnOk P w K mg base (L2.CX P w) (k + 2) (fa 16) (fdd 16) ["lines", "edits"] (spOf (c00 xc P w K mg base (k + 2)) (calls dfs (shsOf tt) (j + 1)) 16 2) :=
  df_ok (cd := none) (C0 := c00 xc P w K mg base (k + 2)) (exA := (exOf xc)) (d := d16) (Φ := calls dfs (shsOf tt) j) (shs := shsOf tt) rfl rfl F (fun q h => nomatch h) c16 rfl (fun W => b16 B (ft_move T) W) (fun ss => calls_succ rfl)
theorem up17 {j k : Nat} {xc : Addr} (RO : ∀ sc N pr k cd, RaiseOk (cfgOf P w K mg base sc N pr k (exOf xc) cd) "NotInOrder" xc) (SG : ∀ sc N pr k cd, SglOk (cfgOf P w K mg base sc N pr k (exOf xc) cd) 0 "NotInOrder") (F : Fun K "_law_fit_edits" "_law_fit_edits" s17 (fa 17) (fdd 17)) (B : ∀ x ∈ bnames, mg x = none) (T : FtOk (c00 xc P w K mg base k) (calls dfs (shsOf tt) j) (ft fa fdd) tt) : FnOk P w K mg base (L2.CX P w) (k + 2) (fa 17) (fdd 17) ["tape", "menu", "lines", "most", "room"] (spOf (c00 xc P w K mg base (k + 2)) (calls dfs (shsOf tt) (j + 1)) 17 5) :=
  df_ok (cd := none) (C0 := c00 xc P w K mg base (k + 2)) (exA := (exOf xc)) (d := d17) (Φ := calls dfs (shsOf tt) j) (shs := shsOf tt) rfl rfl F (fun q h => nomatch h) c17 rfl (fun W => b17 B (ft_move T) W) (fun ss => calls_succ rfl)
theorem up18 {j k : Nat} {xc : Addr} (RO : ∀ sc N pr k cd, RaiseOk (cfgOf P w K mg base sc N pr k (exOf xc) cd) "NotInOrder" xc) (SG : ∀ sc N pr k cd, SglOk (cfgOf P w K mg base sc N pr k (exOf xc) cd) 0 "NotInOrder") (F : Fun K "_law_loose_edits" "_law_loose_edits" s18 (fa 18) (fdd 18)) (B : ∀ x ∈ bnames, mg x = none) (T : FtOk (c00 xc P w K mg base k) (calls dfs (shsOf tt) j) (ft fa fdd) tt) : FnOk P w K mg base (L2.CX P w) (k + 2) (fa 18) (fdd 18) ["tape", "menu", "lines", "most"] (spOf (c00 xc P w K mg base (k + 2)) (calls dfs (shsOf tt) (j + 1)) 18 4) :=
  df_ok (cd := none) (C0 := c00 xc P w K mg base (k + 2)) (exA := (exOf xc)) (d := d18) (Φ := calls dfs (shsOf tt) j) (shs := shsOf tt) rfl rfl F (fun q h => nomatch h) c18 rfl (fun W => b18 B (ft_move T) W) (fun ss => calls_succ rfl)
theorem up19 {j k : Nat} {xc : Addr} (RO : ∀ sc N pr k cd, RaiseOk (cfgOf P w K mg base sc N pr k (exOf xc) cd) "NotInOrder" xc) (SG : ∀ sc N pr k cd, SglOk (cfgOf P w K mg base sc N pr k (exOf xc) cd) 0 "NotInOrder") (F : Fun K "_law_spoilt" "_law_spoilt" s19 (fa 19) (fdd 19)) (B : ∀ x ∈ bnames, mg x = none) (T : FtOk (c00 xc P w K mg base k) (calls dfs (shsOf tt) j) (ft fa fdd) tt) : FnOk P w K mg base (L2.CX P w) (k + 2) (fa 19) (fdd 19) ["tape", "menu", "edits"] (spOf (c00 xc P w K mg base (k + 2)) (calls dfs (shsOf tt) (j + 1)) 19 3) :=
  df_ok (cd := none) (C0 := c00 xc P w K mg base (k + 2)) (exA := (exOf xc)) (d := d19) (Φ := calls dfs (shsOf tt) j) (shs := shsOf tt) rfl rfl F (fun q h => nomatch h) c19 rfl (fun W => b19 B (ft_move T) W) (fun ss => calls_succ rfl)
theorem up20 {j k : Nat} {xc : Addr} (RO : ∀ sc N pr k cd, RaiseOk (cfgOf P w K mg base sc N pr k (exOf xc) cd) "NotInOrder" xc) (SG : ∀ sc N pr k cd, SglOk (cfgOf P w K mg base sc N pr k (exOf xc) cd) 0 "NotInOrder") (F : Fun K "_law_wild_edits" "_law_wild_edits" s20 (fa 20) (fdd 20)) (B : ∀ x ∈ bnames, mg x = none) (T : FtOk (c00 xc P w K mg base k) (calls dfs (shsOf tt) j) (ft fa fdd) tt) : FnOk P w K mg base (L2.CX P w) (k + 2) (fa 20) (fdd 20) ["tape", "menu", "most"] (spOf (c00 xc P w K mg base (k + 2)) (calls dfs (shsOf tt) (j + 1)) 20 3) :=
  df_ok (cd := none) (C0 := c00 xc P w K mg base (k + 2)) (exA := (exOf xc)) (d := d20) (Φ := calls dfs (shsOf tt) j) (shs := shsOf tt) rfl rfl F (fun q h => nomatch h) c20 rfl (fun W => b20 B (ft_move T) W) (fun ss => calls_succ rfl)
theorem up21 {j k : Nat} {xc : Addr} (RO : ∀ sc N pr k cd, RaiseOk (cfgOf P w K mg base sc N pr k (exOf xc) cd) "NotInOrder" xc) (SG : ∀ sc N pr k cd, SglOk (cfgOf P w K mg base sc N pr k (exOf xc) cd) 0 "NotInOrder") (F : Fun K "_law_some_edits" "_law_some_edits" s21 (fa 21) (fdd 21)) (B : ∀ x ∈ bnames, mg x = none) (T : FtOk (c00 xc P w K mg base k) (calls dfs (shsOf tt) j) (ft fa fdd) tt) : FnOk P w K mg base (L2.CX P w) (k + 2) (fa 21) (fdd 21) ["tape", "menu", "lines"] (spOf (c00 xc P w K mg base (k + 2)) (calls dfs (shsOf tt) (j + 1)) 21 3) :=
  df_ok (cd := none) (C0 := c00 xc P w K mg base (k + 2)) (exA := (exOf xc)) (d := d21) (Φ := calls dfs (shsOf tt) j) (shs := shsOf tt) rfl rfl F (fun q h => nomatch h) c21 rfl (fun W => b21 B (ft_move T) W) (fun ss => calls_succ rfl)
theorem up22 {j k : Nat} {xc : Addr} (RO : ∀ sc N pr k cd, RaiseOk (cfgOf P w K mg base sc N pr k (exOf xc) cd) "NotInOrder" xc) (SG : ∀ sc N pr k cd, SglOk (cfgOf P w K mg base sc N pr k (exOf xc) cd) 0 "NotInOrder") (F : Fun K "_law_refused" "_law_refused" s22 (fa 22) (fdd 22)) (B : ∀ x ∈ bnames, mg x = none) (T : FtOk (c00 xc P w K mg base k) (calls dfs (shsOf tt) j) (ft fa fdd) tt) : FnOk P w K mg base (L2.CX P w) (k + 2) (fa 22) (fdd 22) ["edits"] (spOf (c00 xc P w K mg base (k + 2)) (calls dfs (shsOf tt) (j + 1)) 22 1) :=
  df_ok (cd := none) (C0 := c00 xc P w K mg base (k + 2)) (exA := (exOf xc)) (d := d22) (Φ := calls dfs (shsOf tt) j) (shs := shsOf tt) rfl rfl F (fun q h => nomatch h) c22 rfl (fun W => b22 (SG _ _ _ _ _) B (ft_move T) W) (fun ss => calls_succ rfl)
theorem up23 {j k : Nat} {xc : Addr} (RO : ∀ sc N pr k cd, RaiseOk (cfgOf P w K mg base sc N pr k (exOf xc) cd) "NotInOrder" xc) (SG : ∀ sc N pr k cd, SglOk (cfgOf P w K mg base sc N pr k (exOf xc) cd) 0 "NotInOrder") (F : Fun K "_law_due" "_law_due" s23 (fa 23) (fdd 23)) (B : ∀ x ∈ bnames, mg x = none) (T : FtOk (c00 xc P w K mg base k) (calls dfs (shsOf tt) j) (ft fa fdd) tt) : FnOk P w K mg base (L2.CX P w) (k + 2) (fa 23) (fdd 23) ["edits"] (spOf (c00 xc P w K mg base (k + 2)) (calls dfs (shsOf tt) (j + 1)) 23 1) :=
  df_ok (cd := none) (C0 := c00 xc P w K mg base (k + 2)) (exA := (exOf xc)) (d := d23) (Φ := calls dfs (shsOf tt) j) (shs := shsOf tt) rfl rfl F (fun q h => nomatch h) c23 rfl (fun W => b23 B (ft_move T) W) (fun ss => calls_succ rfl)
theorem up24 {j k : Nat} {xc : Addr} (RO : ∀ sc N pr k cd, RaiseOk (cfgOf P w K mg base sc N pr k (exOf xc) cd) "NotInOrder" xc) (SG : ∀ sc N pr k cd, SglOk (cfgOf P w K mg base sc N pr k (exOf xc) cd) 0 "NotInOrder") (F : Fun K "law" "law" s24 (fa 24) (fdd 24)) (B : ∀ x ∈ bnames, mg x = none) (T : FtOk (c00 xc P w K mg base k) (calls dfs (shsOf tt) j) (ft fa fdd) tt) : FnOk P w K mg base (L2.CX P w) (k + 2) (fa 24) (fdd 24) ["script"] (spOf (c00 xc P w K mg base (k + 2)) (calls dfs (shsOf tt) (j + 1)) 24 1) :=
  df_ok (cd := none) (C0 := c00 xc P w K mg base (k + 2)) (exA := (exOf xc)) (d := d24) (Φ := calls dfs (shsOf tt) j) (shs := shsOf tt) rfl rfl F (fun q h => nomatch h) c24 rfl (fun W => b24 B (ft_move T) W) (fun ss => calls_succ rfl)
theorem lv {xc : Addr} (RO : ∀ sc N pr k cd, RaiseOk (cfgOf P w K mg base sc N pr k (exOf xc) cd) "NotInOrder" xc) (SG : ∀ sc N pr k cd, SglOk (cfgOf P w K mg base sc N pr k (exOf xc) cd) 0 "NotInOrder") (F0 : Fun K "applies" "applies" s0 (fa 0) (fdd 0)) (F1 : Fun K "end_of" "end_of" s1 (fa 1) (fdd 1)) (F2 : Fun K "in_order" "in_order" s2 (fa 2) (fdd 2)) (F3 : Fun K "apply_edits" "apply_edits" s3 (fa 3) (fdd 3)) (F4 : Fun K "line_origins" "line_origins" s4 (fa 4) (fdd 4)) (F5 : Fun K "inverse_edits" "inverse_edits" s5 (fa 5) (fdd 5)) (F6 : Fun K "_line_from" "_line_from" s6 (fa 6) (fdd 6)) (F7 : Fun K "_law_tape" "_law_tape" s7 (fa 7) (fdd 7)) (F8 : Fun K "_law_draw" "_law_draw" s8 (fa 8) (fdd 8)) (F9 : Fun K "_law_same" "_law_same" s9 (fa 9) (fdd 9)) (F10 : Fun K "_law_menu" "_law_menu" s10 (fa 10) (fdd 10)) (F11 : Fun K "_law_lines" "_law_lines" s11 (fa 11) (fdd 11)) (F12 : Fun K "_law_row" "_law_row" s12 (fa 12) (fdd 12)) (F13 : Fun K "_law_end" "_law_end" s13 (fa 13) (fdd 13)) (F14 : Fun K "_law_ordered" "_law_ordered" s14 (fa 14) (fdd 14)) (F15 : Fun K "_law_fits" "_law_fits" s15 (fa 15) (fdd 15)) (F16 : Fun K "_law_applied" "_law_applied" s16 (fa 16) (fdd 16)) (F17 : Fun K "_law_fit_edits" "_law_fit_edits" s17 (fa 17) (fdd 17)) (F18 : Fun K "_law_loose_edits" "_law_loose_edits" s18 (fa 18) (fdd 18)) (F19 : Fun K "_law_spoilt" "_law_spoilt" s19 (fa 19) (fdd 19)) (F20 : Fun K "_law_wild_edits" "_law_wild_edits" s20 (fa 20) (fdd 20)) (F21 : Fun K "_law_some_edits" "_law_some_edits" s21 (fa 21) (fdd 21)) (F22 : Fun K "_law_refused" "_law_refused" s22 (fa 22) (fdd 22)) (F23 : Fun K "_law_due" "_law_due" s23 (fa 23) (fdd 23)) (F24 : Fun K "law" "law" s24 (fa 24) (fdd 24))
    (g0 : mg "applies" = some (.ref (fa 0))) (g1 : mg "end_of" = some (.ref (fa 1))) (g2 : mg "in_order" = some (.ref (fa 2))) (g3 : mg "apply_edits" = some (.ref (fa 3))) (g4 : mg "line_origins" = some (.ref (fa 4))) (g5 : mg "inverse_edits" = some (.ref (fa 5))) (g6 : mg "_line_from" = some (.ref (fa 6))) (g7 : mg "_law_tape" = some (.ref (fa 7))) (g8 : mg "_law_draw" = some (.ref (fa 8))) (g9 : mg "_law_same" = some (.ref (fa 9))) (g10 : mg "_law_menu" = some (.ref (fa 10))) (g11 : mg "_law_lines" = some (.ref (fa 11))) (g12 : mg "_law_row" = some (.ref (fa 12))) (g13 : mg "_law_end" = some (.ref (fa 13))) (g14 : mg "_law_ordered" = some (.ref (fa 14))) (g15 : mg "_law_fits" = some (.ref (fa 15))) (g16 : mg "_law_applied" = some (.ref (fa 16))) (g17 : mg "_law_fit_edits" = some (.ref (fa 17))) (g18 : mg "_law_loose_edits" = some (.ref (fa 18))) (g19 : mg "_law_spoilt" = some (.ref (fa 19))) (g20 : mg "_law_wild_edits" = some (.ref (fa 20))) (g21 : mg "_law_some_edits" = some (.ref (fa 21))) (g22 : mg "_law_refused" = some (.ref (fa 22))) (g23 : mg "_law_due" = some (.ref (fa 23))) (g24 : mg "law" = some (.ref (fa 24)))
    (e0 : ShOk K (fdd 0) ["lines", "edit"] [] 2 ((List.range 2).map .inl)) (e1 : ShOk K (fdd 1) ["edit"] [] 1 ((List.range 1).map .inl)) (e2 : ShOk K (fdd 2) ["edits"] [] 1 ((List.range 1).map .inl)) (e3 : ShOk K (fdd 3) ["lines", "edits"] [] 2 ((List.range 2).map .inl)) (e4 : ShOk K (fdd 4) ["lines", "edits"] [] 2 ((List.range 2).map .inl)) (e5 : ShOk K (fdd 5) ["edits"] [] 1 ((List.range 1).map .inl)) (e6 : ShOk K (fdd 6) ["lines", "edits", "origin"] [] 3 ((List.range 3).map .inl)) (e7 : ShOk K (fdd 7) ["script"] [] 1 ((List.range 1).map .inl)) (e8 : ShOk K (fdd 8) ["tape", "many"] [] 2 ((List.range 2).map .inl)) (e9 : ShOk K (fdd 9) ["actual", "expected"] [] 2 ((List.range 2).map .inl)) (e10 : ShOk K (fdd 10) ["tape"] [] 1 ((List.range 1).map .inl)) (e11 : ShOk K (fdd 11) ["tape", "menu", "most"] [] 3 ((List.range 3).map .inl)) (e12 : ShOk K (fdd 12) ["tape", "menu"] [] 2 ((List.range 2).map .inl)) (e13 : ShOk K (fdd 13) ["edit"] [] 1 ((List.range 1).map .inl)) (e14 : ShOk K (fdd 14) ["edits"] [] 1 ((List.range 1).map .inl)) (e15 : ShOk K (fdd 15) ["lines", "edit"] [] 2 ((List.range 2).map .inl)) (e16 : ShOk K (fdd 16) ["lines", "edits"] [] 2 ((List.range 2).map .inl)) (e17 : ShOk K (fdd 17) ["tape", "menu", "lines", "most", "room"] [] 5 ((List.range 5).map .inl)) (e18 : ShOk K (fdd 18) ["tape", "menu", "lines", "most"] [] 4 ((List.range 4).map .inl)) (e19 : ShOk K (fdd 19) ["tape", "menu", "edits"] [] 3 ((List.range 3).map .inl)) (e20 : ShOk K (fdd 20) ["tape", "menu", "most"] [] 3 ((List.range 3).map .inl)) (e21 : ShOk K (fdd 21) ["tape", "menu", "lines"] [] 3 ((List.range 3).map .inl)) (e22 : ShOk K (fdd 22) ["edits"] [] 1 ((List.range 1).map .inl)) (e23 : ShOk K (fdd 23) ["edits"] [] 1 ((List.range 1).map .inl)) (e24 : ShOk K (fdd 24) ["script"] [] 1 ((List.range 1).map .inl))
   
    (B : ∀ x ∈ bnames, mg x = none) (k : Nat) : FtOk (c00 xc P w K mg base (2 * k)) (calls dfs (shsOf tt) k) (ft fa fdd) tt ∧ LtOk (c00 xc P w K mg base (2 * k)) (calls dfs (shsOf tt) k) lt := by
  induction k with
  | zero =>
    refine ⟨⟨fun i fi h => ?_, sh_all e0 e1 e2 e3 e4 e5 e6 e7 e8 e9 e10 e11 e12 e13 e14 e15 e16 e17 e18 e19 e20 e21 e22 e23 e24⟩, ⟨?_⟩⟩
    · match i, h with
      | 0, h => cases h; exact ⟨g0, F0.kp, fn_zero⟩
      | 1, h => cases h; exact ⟨g1, F1.kp, fn_zero⟩
      | 2, h => cases h; exact ⟨g2, F2.kp, fn_zero⟩
      | 3, h => cases h; exact ⟨g3, F3.kp, fn_zero⟩
      | 4, h => cases h; exact ⟨g4, F4.kp, fn_zero⟩
      | 5, h => cases h; exact ⟨g5, F5.kp, fn_zero⟩
      | 6, h => cases h; exact ⟨g6, F6.kp, fn_zero⟩
      | 7, h => cases h; exact ⟨g7, F7.kp, fn_zero⟩
      | 8, h => cases h; exact ⟨g8, F8.kp, fn_zero⟩
      | 9, h => cases h; exact ⟨g9, F9.kp, fn_zero⟩
      | 10, h => cases h; exact ⟨g10, F10.kp, fn_zero⟩
      | 11, h => cases h; exact ⟨g11, F11.kp, fn_zero⟩
      | 12, h => cases h; exact ⟨g12, F12.kp, fn_zero⟩
      | 13, h => cases h; exact ⟨g13, F13.kp, fn_zero⟩
      | 14, h => cases h; exact ⟨g14, F14.kp, fn_zero⟩
      | 15, h => cases h; exact ⟨g15, F15.kp, fn_zero⟩
      | 16, h => cases h; exact ⟨g16, F16.kp, fn_zero⟩
      | 17, h => cases h; exact ⟨g17, F17.kp, fn_zero⟩
      | 18, h => cases h; exact ⟨g18, F18.kp, fn_zero⟩
      | 19, h => cases h; exact ⟨g19, F19.kp, fn_zero⟩
      | 20, h => cases h; exact ⟨g20, F20.kp, fn_zero⟩
      | 21, h => cases h; exact ⟨g21, F21.kp, fn_zero⟩
      | 22, h => cases h; exact ⟨g22, F22.kp, fn_zero⟩
      | 23, h => cases h; exact ⟨g23, F23.kp, fn_zero⟩
      | 24, h => cases h; exact ⟨g24, F24.kp, fn_zero⟩
      | i + 25, h => simp [ft, nms] at h
    · intro k0 n0 h
      unfold lt at h
      cases h
  | succ k ih =>
    refine ⟨⟨fun i fi h => ?_, sh_all e0 e1 e2 e3 e4 e5 e6 e7 e8 e9 e10 e11 e12 e13 e14 e15 e16 e17 e18 e19 e20 e21 e22 e23 e24⟩, ⟨?_⟩⟩
    · match i, h with
      | 0, h => cases h; exact ⟨g0, F0.kp, up0 RO SG F0 B ih.1⟩
      | 1, h => cases h; exact ⟨g1, F1.kp, up1 RO SG F1 B ih.1⟩
      | 2, h => cases h; exact ⟨g2, F2.kp, up2 RO SG F2 B ih.1⟩
      | 3, h => cases h; exact ⟨g3, F3.kp, up3 RO SG F3 B ih.1⟩
      | 4, h => cases h; exact ⟨g4, F4.kp, up4 RO SG F4 B ih.1⟩
      | 5, h => cases h; exact ⟨g5, F5.kp, up5 RO SG F5 B ih.1⟩
      | 6, h => cases h; exact ⟨g6, F6.kp, up6 RO SG F6 B ih.1⟩
      | 7, h => cases h; exact ⟨g7, F7.kp, up7 RO SG F7 B ih.1⟩
      | 8, h => cases h; exact ⟨g8, F8.kp, up8 RO SG F8 B ih.1⟩
      | 9, h => cases h; exact ⟨g9, F9.kp, up9 RO SG F9 B ih.1⟩
      | 10, h => cases h; exact ⟨g10, F10.kp, up10 RO SG F10 B ih.1⟩
      | 11, h => cases h; exact ⟨g11, F11.kp, up11 RO SG F11 B ih.1⟩
      | 12, h => cases h; exact ⟨g12, F12.kp, up12 RO SG F12 B ih.1⟩
      | 13, h => cases h; exact ⟨g13, F13.kp, up13 RO SG F13 B ih.1⟩
      | 14, h => cases h; exact ⟨g14, F14.kp, up14 RO SG F14 B ih.1⟩
      | 15, h => cases h; exact ⟨g15, F15.kp, up15 RO SG F15 B ih.1⟩
      | 16, h => cases h; exact ⟨g16, F16.kp, up16 RO SG F16 B ih.1⟩
      | 17, h => cases h; exact ⟨g17, F17.kp, up17 RO SG F17 B ih.1⟩
      | 18, h => cases h; exact ⟨g18, F18.kp, up18 RO SG F18 B ih.1⟩
      | 19, h => cases h; exact ⟨g19, F19.kp, up19 RO SG F19 B ih.1⟩
      | 20, h => cases h; exact ⟨g20, F20.kp, up20 RO SG F20 B ih.1⟩
      | 21, h => cases h; exact ⟨g21, F21.kp, up21 RO SG F21 B ih.1⟩
      | 22, h => cases h; exact ⟨g22, F22.kp, up22 RO SG F22 B ih.1⟩
      | 23, h => cases h; exact ⟨g23, F23.kp, up23 RO SG F23 B ih.1⟩
      | 24, h => cases h; exact ⟨g24, F24.kp, up24 RO SG F24 B ih.1⟩
      | i + 25, h => simp [ft, nms] at h
    · intro k0 n0 h
      unfold lt at h
      cases h
end
abbrev sS : Stmt := tp 33
theorem bodyS [Tb] {K : PySem.W.Frag} {mg : Str → Option Value} {xc y0_ y2_ y3_ y4_ y5_ y6_ y7_ y8_ y9_ y10_ y11_ y12_ y13_ y14_ y15_ y16_ y17_ y18_ y19_ : Addr} (m0_ : mg "NotReadOnce" = some (.ref y0_)) (m1_ : mg "NotInOrder" = some (.ref xc)) (m2_ : mg "Conflicting" = some (.ref y2_)) (m3_ : mg "BadSeats" = some (.ref y3_)) (m4_ : mg "BadAmounts" = some (.ref y4_)) (m5_ : mg "BadPremier" = some (.ref y5_)) (m6_ : mg "NotUnsafe" = some (.ref y6_)) (m7_ : mg "RecordFull" = some (.ref y7_)) (m8_ : mg "NothingToUndo" = some (.ref y8_)) (m9_ : mg "BadDependency" = some (.ref y9_)) (m10_ : mg "MissingDependency" = some (.ref y10_)) (m11_ : mg "BadRule" = some (.ref y11_)) (m12_ : mg "SittingOutOfOrder" = some (.ref y12_)) (m13_ : mg "NotDetermined" = some (.ref y13_)) (m14_ : mg "BadEntry" = some (.ref y14_)) (m15_ : mg "UnsafeCharter" = some (.ref y15_)) (m16_ : mg "CircularRecord" = some (.ref y16_)) (m17_ : mg "TooManyOpen" = some (.ref y17_)) (m18_ : mg "TotalsDiffer" = some (.ref y18_)) (m19_ : mg "GazetteError" = some (.ref y19_)) (mV : mg "ValueError" = none) (t0_ : PySem.W.kitOne K (.ref xc) (.ref y0_) = some false) (t1_ : PySem.W.kitOne K (.ref xc) (.ref xc) = some true) (t2_ : PySem.W.kitOne K (.ref xc) (.ref y2_) = some false) (t3_ : PySem.W.kitOne K (.ref xc) (.ref y3_) = some false) (t4_ : PySem.W.kitOne K (.ref xc) (.ref y4_) = some false) (t5_ : PySem.W.kitOne K (.ref xc) (.ref y5_) = some false) (t6_ : PySem.W.kitOne K (.ref xc) (.ref y6_) = some false) (t7_ : PySem.W.kitOne K (.ref xc) (.ref y7_) = some false) (t8_ : PySem.W.kitOne K (.ref xc) (.ref y8_) = some false) (t9_ : PySem.W.kitOne K (.ref xc) (.ref y9_) = some false) (t10_ : PySem.W.kitOne K (.ref xc) (.ref y10_) = some false) (t11_ : PySem.W.kitOne K (.ref xc) (.ref y11_) = some false) (t12_ : PySem.W.kitOne K (.ref xc) (.ref y12_) = some false) (t13_ : PySem.W.kitOne K (.ref xc) (.ref y13_) = some false) (t14_ : PySem.W.kitOne K (.ref xc) (.ref y14_) = some false) (t15_ : PySem.W.kitOne K (.ref xc) (.ref y15_) = some false) (t16_ : PySem.W.kitOne K (.ref xc) (.ref y16_) = some false) (t17_ : PySem.W.kitOne K (.ref xc) (.ref y17_) = some false) (t18_ : PySem.W.kitOne K (.ref xc) (.ref y18_) = some false) (t19_ : PySem.W.kitOne K (.ref xc) (.ref y19_) = some true) (tV : PySem.W.kitOne K (.ref xc) (.type "ValueError") = some true)
    (X : Cx) (a : Addr) (H : Hp) (S : SX X a xc) (hsc : X.env.scope = defScope sS) (hmg : X.mg = mg) (hK : X.K = K) : ∃ t, PSs X (defBody sS) t ∧ ∀ (σ : L2.St) (Q : VK) (N : L2.St → Hp → Prop), σ.length = 2 → σ[0]? = some (some (.ref a)) → (∀ H', (∀ b o, H b = some o → H' b = some o) → Q (.bl true) H') → t { nx := N, rt := Q } σ H := by
  exact ⟨_, (pss_cons (ps_first (H0 := H) S (pe_isS S (clsAt_own hsc hmg (by decide) rfl m0_) (by rw [hK]; exact t0_)) (pe_isS S (clsAt_own hsc hmg (by decide) rfl m1_) (by rw [hK]; exact t1_)) (pe_isS S (clsAt_own hsc hmg (by decide) rfl m2_) (by rw [hK]; exact t2_)) rfl rfl rfl rfl) (pss_cons (ps_more3 (H0 := H) (bs := [false, true, false]) S (pe_isS S (clsAt_own hsc hmg (by decide) rfl m3_) (by rw [hK]; exact t3_)) (pe_isS S (clsAt_own hsc hmg (by decide) rfl m4_) (by rw [hK]; exact t4_)) (pe_isS S (clsAt_own hsc hmg (by decide) rfl m5_) (by rw [hK]; exact t5_)) rfl rfl rfl (by decide) rfl) (pss_cons (ps_more3 (H0 := H) (bs := [false, true, false, false, false, false]) S (pe_isS S (clsAt_own hsc hmg (by decide) rfl m6_) (by rw [hK]; exact t6_)) (pe_isS S (clsAt_own hsc hmg (by decide) rfl m7_) (by rw [hK]; exact t7_)) (pe_isS S (clsAt_own hsc hmg (by decide) rfl m8_) (by rw [hK]; exact t8_)) rfl rfl rfl (by decide) rfl) (pss_cons (ps_more3 (H0 := H) (bs := [false, true, false, false, false, false, false, false, false]) S (pe_isS S (clsAt_own hsc hmg (by decide) rfl m9_) (by rw [hK]; exact t9_)) (pe_isS S (clsAt_own hsc hmg (by decide) rfl m10_) (by rw [hK]; exact t10_)) (pe_isS S (clsAt_own hsc hmg (by decide) rfl m11_) (by rw [hK]; exact t11_)) rfl rfl rfl (by decide) rfl) (pss_cons (ps_more3 (H0 := H) (bs := [false, true, false, false, false, false, false, false, false, false, false, false]) S (pe_isS S (clsAt_own hsc hmg (by decide) rfl m12_) (by rw [hK]; exact t12_)) (pe_isS S (clsAt_own hsc hmg (by decide) rfl m13_) (by rw [hK]; exact t13_)) (pe_isS S (clsAt_own hsc hmg (by decide) rfl m14_) (by rw [hK]; exact t14_)) rfl rfl rfl (by decide) rfl) (pss_cons (ps_more3 (H0 := H) (bs := [false, true, false, false, false, false, false, false, false, false, false, false, false, false, false]) S (pe_isS S (clsAt_own hsc hmg (by decide) rfl m15_) (by rw [hK]; exact t15_)) (pe_isS S (clsAt_own hsc hmg (by decide) rfl m16_) (by rw [hK]; exact t16_)) (pe_isS S (clsAt_own hsc hmg (by decide) rfl m17_) (by rw [hK]; exact t17_)) rfl rfl rfl (by decide) rfl) (pss_cons (ps_more1 (H0 := H) (bs := [false, true, false, false, false, false, false, false, false, false, false, false, false, false, false, false, false, false]) S (pe_isS S (clsAt_own hsc hmg (by decide) rfl m18_) (by rw [hK]; exact t18_)) rfl (by decide) rfl) (pss_cons (ps_last (H0 := H) (bs := [false, true, false, false, false, false, false, false, false, false, false, false, false, false, false, false, false, false, false]) S (pe_isS S (clsAt_own hsc hmg (by decide) rfl m19_) (by rw [hK]; exact t19_)) (pe_isS S (clsAt_blt hsc hmg (by decide) rfl mV (T := "ValueError") (by decide +kernel) (by decide)) (by rw [hK]; exact tV)) (by decide) rfl) pss_nil)))))))), fun σ Q N h1 h2 hq => ⟨⟨h1, h2⟩, fun _ _ h => h, fun σ1 H1 i => ⟨i, fun σ2 H2 i => ⟨i, fun σ2 H2 i => ⟨i, fun σ2 H2 i => ⟨i, fun σ2 H2 i => ⟨i, fun σ2 H2 i => ⟨i, fun σ2 H2 i => ⟨i, fun H2 e2 => hq H2 e2⟩⟩⟩⟩⟩⟩⟩⟩⟩
theorem scS : FnScope [("e" : Str), ("found" : Str)] [("e" : Str)] (defScope sS) := ⟨rfl, rfl, rfl, by decide +kernel, rfl, by decide +kernel, by decide +kernel⟩
theorem all_mk {l : PySem.W.OpenLaw} {w : World} {K : PySem.W.Frag} {h : Heap} {mg : Str → Option Value} {fl : Addr} (X : K.In h) (G : h.Ns mainGlobals mg) (hfa : mg "law" = some (.ref fl))
    {f0 f1 f2 f3 f4 f5 f6 f7 f8 f9 f10 f11 f12 f13 f14 f15 f16 f17 f18 f19 f20 f21 f22 f23 f24 : Addr} {od0 an0 od1 an1 od2 an2 od3 an3 od4 an4 od5 an5 od6 an6 od7 an7 od8 an8 od9 an9 od10 an10 od11 an11 od12 an12 od13 an13 od14 an14 od15 an15 od16 an16 od17 an17 od18 an18 od19 an19 od20 an20 od21 an21 od22 an22 od23 an23 od24 an24 : Option Addr} {sl0 sl1 sl2 sl3 sl4 sl5 sl6 sl7 sl8 sl9 sl10 sl11 sl12 sl13 sl14 sl15 sl16 sl17 sl18 sl19 sl20 sl21 sl22 sl23 sl24 : Array (Option Value)} {oc0 dc0 pm0 ct0 kV0 cd0 oc1 dc1 pm1 ct1 kV1 cd1 oc2 dc2 pm2 ct2 kV2 cd2 oc3 dc3 pm3 ct3 kV3 cd3 oc4 dc4 pm4 ct4 kV4 cd4 oc5 dc5 pm5 ct5 kV5 cd5 oc6 dc6 pm6 ct6 kV6 cd6 oc7 dc7 pm7 ct7 kV7 cd7 oc8 dc8 pm8 ct8 kV8 cd8 oc9 dc9 pm9 ct9 kV9 cd9 oc10 dc10 pm10 ct10 kV10 cd10 oc11 dc11 pm11 ct11 kV11 cd11 oc12 dc12 pm12 ct12 kV12 cd12 oc13 dc13 pm13 ct13 kV13 cd13 oc14 dc14 pm14 ct14 kV14 cd14 oc15 dc15 pm15 ct15 kV15 cd15 oc16 dc16 pm16 ct16 kV16 cd16 oc17 dc17 pm17 ct17 kV17 cd17 oc18 dc18 pm18 ct18 kV18 cd18 oc19 dc19 pm19 ct19 kV19 cd19 oc20 dc20 pm20 ct20 kV20 cd20 oc21 dc21 pm21 ct21 kV21 cd21 oc22 dc22 pm22 ct22 kV22 cd22 oc23 dc23 pm23 ct23 kV23 cd23 oc24 dc24 pm24 ct24 kV24 cd24 : Value}
    (a0 : PySem.W.nsIn K mainGlobals "applies" = some (some (.ref f0))) (l0 : K.lookup f0 = some ⟨oc0, od0, .func (PySem.W.fnOf "applies" "applies" (defArgs s0) (defBody s0) (defScope s0) .none kV0 dc0 pm0 an0 cd0 ct0), sl0⟩) (q0 : PySem.W.codeIn K cd0 "applies" = true) (k0 : PySem.W.keepIn K (.ref f0) = true)
    (a1 : PySem.W.nsIn K mainGlobals "end_of" = some (some (.ref f1))) (l1 : K.lookup f1 = some ⟨oc1, od1, .func (PySem.W.fnOf "end_of" "end_of" (defArgs s1) (defBody s1) (defScope s1) .none kV1 dc1 pm1 an1 cd1 ct1), sl1⟩) (q1 : PySem.W.codeIn K cd1 "end_of" = true) (k1 : PySem.W.keepIn K (.ref f1) = true)
    (a2 : PySem.W.nsIn K mainGlobals "in_order" = some (some (.ref f2))) (l2 : K.lookup f2 = some ⟨oc2, od2, .func (PySem.W.fnOf "in_order" "in_order" (defArgs s2) (defBody s2) (defScope s2) .none kV2 dc2 pm2 an2 cd2 ct2), sl2⟩) (q2 : PySem.W.codeIn K cd2 "in_order" = true) (k2 : PySem.W.keepIn K (.ref f2) = true)
    (a3 : PySem.W.nsIn K mainGlobals "apply_edits" = some (some (.ref f3))) (l3 : K.lookup f3 = some ⟨oc3, od3, .func (PySem.W.fnOf "apply_edits" "apply_edits" (defArgs s3) (defBody s3) (defScope s3) .none kV3 dc3 pm3 an3 cd3 ct3), sl3⟩) (q3 : PySem.W.codeIn K cd3 "apply_edits" = true) (k3 : PySem.W.keepIn K (.ref f3) = true)
    (a4 : PySem.W.nsIn K mainGlobals "line_origins" = some (some (.ref f4))) (l4 : K.lookup f4 = some ⟨oc4, od4, .func (PySem.W.fnOf "line_origins" "line_origins" (defArgs s4) (defBody s4) (defScope s4) .none kV4 dc4 pm4 an4 cd4 ct4), sl4⟩) (q4 : PySem.W.codeIn K cd4 "line_origins" = true) (k4 : PySem.W.keepIn K (.ref f4) = true)
    (a5 : PySem.W.nsIn K mainGlobals "inverse_edits" = some (some (.ref f5))) (l5 : K.lookup f5 = some ⟨oc5, od5, .func (PySem.W.fnOf "inverse_edits" "inverse_edits" (defArgs s5) (defBody s5) (defScope s5) .none kV5 dc5 pm5 an5 cd5 ct5), sl5⟩) (q5 : PySem.W.codeIn K cd5 "inverse_edits" = true) (k5 : PySem.W.keepIn K (.ref f5) = true)
    (a6 : PySem.W.nsIn K mainGlobals "_line_from" = some (some (.ref f6))) (l6 : K.lookup f6 = some ⟨oc6, od6, .func (PySem.W.fnOf "_line_from" "_line_from" (defArgs s6) (defBody s6) (defScope s6) .none kV6 dc6 pm6 an6 cd6 ct6), sl6⟩) (q6 : PySem.W.codeIn K cd6 "_line_from" = true) (k6 : PySem.W.keepIn K (.ref f6) = true)
    (a7 : PySem.W.nsIn K mainGlobals "_law_tape" = some (some (.ref f7))) (l7 : K.lookup f7 = some ⟨oc7, od7, .func (PySem.W.fnOf "_law_tape" "_law_tape" (defArgs s7) (defBody s7) (defScope s7) .none kV7 dc7 pm7 an7 cd7 ct7), sl7⟩) (q7 : PySem.W.codeIn K cd7 "_law_tape" = true) (k7 : PySem.W.keepIn K (.ref f7) = true)
    (a8 : PySem.W.nsIn K mainGlobals "_law_draw" = some (some (.ref f8))) (l8 : K.lookup f8 = some ⟨oc8, od8, .func (PySem.W.fnOf "_law_draw" "_law_draw" (defArgs s8) (defBody s8) (defScope s8) .none kV8 dc8 pm8 an8 cd8 ct8), sl8⟩) (q8 : PySem.W.codeIn K cd8 "_law_draw" = true) (k8 : PySem.W.keepIn K (.ref f8) = true)
    (a9 : PySem.W.nsIn K mainGlobals "_law_same" = some (some (.ref f9))) (l9 : K.lookup f9 = some ⟨oc9, od9, .func (PySem.W.fnOf "_law_same" "_law_same" (defArgs s9) (defBody s9) (defScope s9) .none kV9 dc9 pm9 an9 cd9 ct9), sl9⟩) (q9 : PySem.W.codeIn K cd9 "_law_same" = true) (k9 : PySem.W.keepIn K (.ref f9) = true)
    (a10 : PySem.W.nsIn K mainGlobals "_law_menu" = some (some (.ref f10))) (l10 : K.lookup f10 = some ⟨oc10, od10, .func (PySem.W.fnOf "_law_menu" "_law_menu" (defArgs s10) (defBody s10) (defScope s10) .none kV10 dc10 pm10 an10 cd10 ct10), sl10⟩) (q10 : PySem.W.codeIn K cd10 "_law_menu" = true) (k10 : PySem.W.keepIn K (.ref f10) = true)
    (a11 : PySem.W.nsIn K mainGlobals "_law_lines" = some (some (.ref f11))) (l11 : K.lookup f11 = some ⟨oc11, od11, .func (PySem.W.fnOf "_law_lines" "_law_lines" (defArgs s11) (defBody s11) (defScope s11) .none kV11 dc11 pm11 an11 cd11 ct11), sl11⟩) (q11 : PySem.W.codeIn K cd11 "_law_lines" = true) (k11 : PySem.W.keepIn K (.ref f11) = true)
    (a12 : PySem.W.nsIn K mainGlobals "_law_row" = some (some (.ref f12))) (l12 : K.lookup f12 = some ⟨oc12, od12, .func (PySem.W.fnOf "_law_row" "_law_row" (defArgs s12) (defBody s12) (defScope s12) .none kV12 dc12 pm12 an12 cd12 ct12), sl12⟩) (q12 : PySem.W.codeIn K cd12 "_law_row" = true) (k12 : PySem.W.keepIn K (.ref f12) = true)
    (a13 : PySem.W.nsIn K mainGlobals "_law_end" = some (some (.ref f13))) (l13 : K.lookup f13 = some ⟨oc13, od13, .func (PySem.W.fnOf "_law_end" "_law_end" (defArgs s13) (defBody s13) (defScope s13) .none kV13 dc13 pm13 an13 cd13 ct13), sl13⟩) (q13 : PySem.W.codeIn K cd13 "_law_end" = true) (k13 : PySem.W.keepIn K (.ref f13) = true)
    (a14 : PySem.W.nsIn K mainGlobals "_law_ordered" = some (some (.ref f14))) (l14 : K.lookup f14 = some ⟨oc14, od14, .func (PySem.W.fnOf "_law_ordered" "_law_ordered" (defArgs s14) (defBody s14) (defScope s14) .none kV14 dc14 pm14 an14 cd14 ct14), sl14⟩) (q14 : PySem.W.codeIn K cd14 "_law_ordered" = true) (k14 : PySem.W.keepIn K (.ref f14) = true)
    (a15 : PySem.W.nsIn K mainGlobals "_law_fits" = some (some (.ref f15))) (l15 : K.lookup f15 = some ⟨oc15, od15, .func (PySem.W.fnOf "_law_fits" "_law_fits" (defArgs s15) (defBody s15) (defScope s15) .none kV15 dc15 pm15 an15 cd15 ct15), sl15⟩) (q15 : PySem.W.codeIn K cd15 "_law_fits" = true) (k15 : PySem.W.keepIn K (.ref f15) = true)
    (a16 : PySem.W.nsIn K mainGlobals "_law_applied" = some (some (.ref f16))) (l16 : K.lookup f16 = some ⟨oc16, od16, .func (PySem.W.fnOf "_law_applied" "_law_applied" (defArgs s16) (defBody s16) (defScope s16) .none kV16 dc16 pm16 an16 cd16 ct16), sl16⟩) (q16 : PySem.W.codeIn K cd16 "_law_applied" = true) (k16 : PySem.W.keepIn K (.ref f16) = true)
    (a17 : PySem.W.nsIn K mainGlobals "_law_fit_edits" = some (some (.ref f17))) (l17 : K.lookup f17 = some ⟨oc17, od17, .func (PySem.W.fnOf "_law_fit_edits" "_law_fit_edits" (defArgs s17) (defBody s17) (defScope s17) .none kV17 dc17 pm17 an17 cd17 ct17), sl17⟩) (q17 : PySem.W.codeIn K cd17 "_law_fit_edits" = true) (k17 : PySem.W.keepIn K (.ref f17) = true)
    (a18 : PySem.W.nsIn K mainGlobals "_law_loose_edits" = some (some (.ref f18))) (l18 : K.lookup f18 = some ⟨oc18, od18, .func (PySem.W.fnOf "_law_loose_edits" "_law_loose_edits" (defArgs s18) (defBody s18) (defScope s18) .none kV18 dc18 pm18 an18 cd18 ct18), sl18⟩) (q18 : PySem.W.codeIn K cd18 "_law_loose_edits" = true) (k18 : PySem.W.keepIn K (.ref f18) = true)
    (a19 : PySem.W.nsIn K mainGlobals "_law_spoilt" = some (some (.ref f19))) (l19 : K.lookup f19 = some ⟨oc19, od19, .func (PySem.W.fnOf "_law_spoilt" "_law_spoilt" (defArgs s19) (defBody s19) (defScope s19) .none kV19 dc19 pm19 an19 cd19 ct19), sl19⟩) (q19 : PySem.W.codeIn K cd19 "_law_spoilt" = true) (k19 : PySem.W.keepIn K (.ref f19) = true)
    (a20 : PySem.W.nsIn K mainGlobals "_law_wild_edits" = some (some (.ref f20))) (l20 : K.lookup f20 = some ⟨oc20, od20, .func (PySem.W.fnOf "_law_wild_edits" "_law_wild_edits" (defArgs s20) (defBody s20) (defScope s20) .none kV20 dc20 pm20 an20 cd20 ct20), sl20⟩) (q20 : PySem.W.codeIn K cd20 "_law_wild_edits" = true) (k20 : PySem.W.keepIn K (.ref f20) = true)
    (a21 : PySem.W.nsIn K mainGlobals "_law_some_edits" = some (some (.ref f21))) (l21 : K.lookup f21 = some ⟨oc21, od21, .func (PySem.W.fnOf "_law_some_edits" "_law_some_edits" (defArgs s21) (defBody s21) (defScope s21) .none kV21 dc21 pm21 an21 cd21 ct21), sl21⟩) (q21 : PySem.W.codeIn K cd21 "_law_some_edits" = true) (k21 : PySem.W.keepIn K (.ref f21) = true)
    (a22 : PySem.W.nsIn K mainGlobals "_law_refused" = some (some (.ref f22))) (l22 : K.lookup f22 = some ⟨oc22, od22, .func (PySem.W.fnOf "_law_refused" "_law_refused" (defArgs s22) (defBody s22) (defScope s22) .none kV22 dc22 pm22 an22 cd22 ct22), sl22⟩) (q22 : PySem.W.codeIn K cd22 "_law_refused" = true) (k22 : PySem.W.keepIn K (.ref f22) = true)
    (a23 : PySem.W.nsIn K mainGlobals "_law_due" = some (some (.ref f23))) (l23 : K.lookup f23 = some ⟨oc23, od23, .func (PySem.W.fnOf "_law_due" "_law_due" (defArgs s23) (defBody s23) (defScope s23) .none kV23 dc23 pm23 an23 cd23 ct23), sl23⟩) (q23 : PySem.W.codeIn K cd23 "_law_due" = true) (k23 : PySem.W.keepIn K (.ref f23) = true)
    (a24 : PySem.W.nsIn K mainGlobals "law" = some (some (.ref f24))) (l24 : K.lookup f24 = some ⟨oc24, od24, .func (PySem.W.fnOf "law" "law" (defArgs s24) (defBody s24) (defScope s24) .none kV24 dc24 pm24 an24 cd24 ct24), sl24⟩) (q24 : PySem.W.codeIn K cd24 "law" = true) (k24 : PySem.W.keepIn K (.ref f24) = true)
    {fS xc y0_ y2_ y3_ y4_ y5_ y6_ y7_ y8_ y9_ y10_ y11_ y12_ y13_ y14_ y15_ y16_ y17_ y18_ y19_ : Addr} {odS anS : Option Addr} {slS : Array (Option Value)} {ocS dcS pmS ctS kVS cdS : Value}
    (aS : PySem.W.nsIn K mainGlobals "_law_single" = some (some (.ref fS))) (lS : K.lookup fS = some ⟨ocS, odS, .func (PySem.W.fnOf "_law_single" "_law_single" (defArgs sS) (defBody sS) (defScope sS) .none kVS dcS pmS anS cdS ctS), slS⟩) (qS : PySem.W.codeIn K cdS "_law_single" = true) (kS : PySem.W.keepIn K (.ref fS) = true) (n0_ : PySem.W.nsIn K mainGlobals "NotReadOnce" = some (some (.ref y0_))) (n1_ : PySem.W.nsIn K mainGlobals "NotInOrder" = some (some (.ref xc))) (n2_ : PySem.W.nsIn K mainGlobals "Conflicting" = some (some (.ref y2_))) (n3_ : PySem.W.nsIn K mainGlobals "BadSeats" = some (some (.ref y3_))) (n4_ : PySem.W.nsIn K mainGlobals "BadAmounts" = some (some (.ref y4_))) (n5_ : PySem.W.nsIn K mainGlobals "BadPremier" = some (some (.ref y5_))) (n6_ : PySem.W.nsIn K mainGlobals "NotUnsafe" = some (some (.ref y6_))) (n7_ : PySem.W.nsIn K mainGlobals "RecordFull" = some (some (.ref y7_))) (n8_ : PySem.W.nsIn K mainGlobals "NothingToUndo" = some (some (.ref y8_))) (n9_ : PySem.W.nsIn K mainGlobals "BadDependency" = some (some (.ref y9_))) (n10_ : PySem.W.nsIn K mainGlobals "MissingDependency" = some (some (.ref y10_))) (n11_ : PySem.W.nsIn K mainGlobals "BadRule" = some (some (.ref y11_))) (n12_ : PySem.W.nsIn K mainGlobals "SittingOutOfOrder" = some (some (.ref y12_))) (n13_ : PySem.W.nsIn K mainGlobals "NotDetermined" = some (some (.ref y13_))) (n14_ : PySem.W.nsIn K mainGlobals "BadEntry" = some (some (.ref y14_))) (n15_ : PySem.W.nsIn K mainGlobals "UnsafeCharter" = some (some (.ref y15_))) (n16_ : PySem.W.nsIn K mainGlobals "CircularRecord" = some (some (.ref y16_))) (n17_ : PySem.W.nsIn K mainGlobals "TooManyOpen" = some (some (.ref y17_))) (n18_ : PySem.W.nsIn K mainGlobals "TotalsDiffer" = some (some (.ref y18_))) (n19_ : PySem.W.nsIn K mainGlobals "GazetteError" = some (some (.ref y19_))) (nV : PySem.W.nsIn K mainGlobals "ValueError" = some none) (xK : excChk K xc = true) (t0_ : PySem.W.kitOne K (.ref xc) (.ref y0_) = some false) (t1_ : PySem.W.kitOne K (.ref xc) (.ref xc) = some true) (t2_ : PySem.W.kitOne K (.ref xc) (.ref y2_) = some false) (t3_ : PySem.W.kitOne K (.ref xc) (.ref y3_) = some false) (t4_ : PySem.W.kitOne K (.ref xc) (.ref y4_) = some false) (t5_ : PySem.W.kitOne K (.ref xc) (.ref y5_) = some false) (t6_ : PySem.W.kitOne K (.ref xc) (.ref y6_) = some false) (t7_ : PySem.W.kitOne K (.ref xc) (.ref y7_) = some false) (t8_ : PySem.W.kitOne K (.ref xc) (.ref y8_) = some false) (t9_ : PySem.W.kitOne K (.ref xc) (.ref y9_) = some false) (t10_ : PySem.W.kitOne K (.ref xc) (.ref y10_) = some false) (t11_ : PySem.W.kitOne K (.ref xc) (.ref y11_) = some false) (t12_ : PySem.W.kitOne K (.ref xc) (.ref y12_) = some false) (t13_ : PySem.W.kitOne K (.ref xc) (.ref y13_) = some false) (t14_ : PySem.W.kitOne K (.ref xc) (.ref y14_) = some false) (t15_ : PySem.W.kitOne K (.ref xc) (.ref y15_) = some false) (t16_ : PySem.W.kitOne K (.ref xc) (.ref y16_) = some false) (t17_ : PySem.W.kitOne K (.ref xc) (.ref y17_) = some false) (t18_ : PySem.W.kitOne K (.ref xc) (.ref y18_) = some false) (t19_ : PySem.W.kitOne K (.ref xc) (.ref y19_) = some true) (tV_ : PySem.W.kitOne K (.ref xc) (.type "ValueError") = some true)
    (z0 : PySem.W.nsIn K mainGlobals "len" = some none) (z1 : PySem.W.nsIn K mainGlobals "abs" = some none) (z2 : PySem.W.nsIn K mainGlobals "int" = some none) (z3 : PySem.W.nsIn K mainGlobals "tuple" = some none) (z4 : PySem.W.nsIn K mainGlobals "list" = some none) (z5 : PySem.W.nsIn K mainGlobals "max" = some none) (z6 : PySem.W.nsIn K mainGlobals "min" = some none) (z7 : PySem.W.nsIn K mainGlobals "sum" = some none) (z8 : PySem.W.nsIn K mainGlobals "any" = some none) (z9 : PySem.W.nsIn K mainGlobals "all" = some none) (z10 : PySem.W.nsIn K mainGlobals "isinstance" = some none) (z11 : PySem.W.nsIn K mainGlobals "bool" = some none) (z12 : PySem.W.nsIn K mainGlobals "str" = some none) (z13 : PySem.W.nsIn K mainGlobals "range" = some none) (z14 : PySem.W.nsIn K mainGlobals "zip" = some none) (z15 : PySem.W.nsIn K mainGlobals "enumerate" = some none) (z16 : PySem.W.nsIn K mainGlobals "reversed" = some none) (z17 : PySem.W.nsIn K mainGlobals "sorted" = some none) (z18 : PySem.W.nsIn K mainGlobals "set" = some none) (z19 : PySem.W.nsIn K mainGlobals "dict" = some none) (z20 : PySem.W.nsIn K mainGlobals "divmod" = some none)
    (pure : ∀ ns : List Int, ns.length ≤ 63 → ∃ outs, calls dfs (shsOf tt) 100 24 [.val (.scr ns)] = .ok (.val (.bl true)) outs) :
    LamX.LawAtS l w K (L2.CX l.prog w) 200 63 "script" mg fl h := by
  letI tbI : Tb := ⟨[], lamF⟩
  have e := hfa.symm.trans (PySem.W.mg_of X G a24)
  cases e
  have F0 := fun_mk (st := s0) l0 q0 k0
  have b0 := F0.binds (ps := ["lines", "edit"]) fun _ _ _ _ _ _ us hl => match us, hl with | [_, _], _ => rfl
  have F1 := fun_mk (st := s1) l1 q1 k1
  have b1 := F1.binds (ps := ["edit"]) fun _ _ _ _ _ _ us hl => match us, hl with | [_], _ => rfl
  have F2 := fun_mk (st := s2) l2 q2 k2
  have b2 := F2.binds (ps := ["edits"]) fun _ _ _ _ _ _ us hl => match us, hl with | [_], _ => rfl
  have F3 := fun_mk (st := s3) l3 q3 k3
  have b3 := F3.binds (ps := ["lines", "edits"]) fun _ _ _ _ _ _ us hl => match us, hl with | [_, _], _ => rfl
  have F4 := fun_mk (st := s4) l4 q4 k4
  have b4 := F4.binds (ps := ["lines", "edits"]) fun _ _ _ _ _ _ us hl => match us, hl with | [_, _], _ => rfl
  have F5 := fun_mk (st := s5) l5 q5 k5
  have b5 := F5.binds (ps := ["edits"]) fun _ _ _ _ _ _ us hl => match us, hl with | [_], _ => rfl
  have F6 := fun_mk (st := s6) l6 q6 k6
  have b6 := F6.binds (ps := ["lines", "edits", "origin"]) fun _ _ _ _ _ _ us hl => match us, hl with | [_, _, _], _ => rfl
  have F7 := fun_mk (st := s7) l7 q7 k7
  have b7 := F7.binds (ps := ["script"]) fun _ _ _ _ _ _ us hl => match us, hl with | [_], _ => rfl
  have F8 := fun_mk (st := s8) l8 q8 k8
  have b8 := F8.binds (ps := ["tape", "many"]) fun _ _ _ _ _ _ us hl => match us, hl with | [_, _], _ => rfl
  have F9 := fun_mk (st := s9) l9 q9 k9
  have b9 := F9.binds (ps := ["actual", "expected"]) fun _ _ _ _ _ _ us hl => match us, hl with | [_, _], _ => rfl
  have F10 := fun_mk (st := s10) l10 q10 k10
  have b10 := F10.binds (ps := ["tape"]) fun _ _ _ _ _ _ us hl => match us, hl with | [_], _ => rfl
  have F11 := fun_mk (st := s11) l11 q11 k11
  have b11 := F11.binds (ps := ["tape", "menu", "most"]) fun _ _ _ _ _ _ us hl => match us, hl with | [_, _, _], _ => rfl
  have F12 := fun_mk (st := s12) l12 q12 k12
  have b12 := F12.binds (ps := ["tape", "menu"]) fun _ _ _ _ _ _ us hl => match us, hl with | [_, _], _ => rfl
  have F13 := fun_mk (st := s13) l13 q13 k13
  have b13 := F13.binds (ps := ["edit"]) fun _ _ _ _ _ _ us hl => match us, hl with | [_], _ => rfl
  have F14 := fun_mk (st := s14) l14 q14 k14
  have b14 := F14.binds (ps := ["edits"]) fun _ _ _ _ _ _ us hl => match us, hl with | [_], _ => rfl
  have F15 := fun_mk (st := s15) l15 q15 k15
  have b15 := F15.binds (ps := ["lines", "edit"]) fun _ _ _ _ _ _ us hl => match us, hl with | [_, _], _ => rfl
  have F16 := fun_mk (st := s16) l16 q16 k16
  have b16 := F16.binds (ps := ["lines", "edits"]) fun _ _ _ _ _ _ us hl => match us, hl with | [_, _], _ => rfl
  have F17 := fun_mk (st := s17) l17 q17 k17
  have b17 := F17.binds (ps := ["tape", "menu", "lines", "most", "room"]) fun _ _ _ _ _ _ us hl => match us, hl with | [_, _, _, _, _], _ => rfl
  have F18 := fun_mk (st := s18) l18 q18 k18
  have b18 := F18.binds (ps := ["tape", "menu", "lines", "most"]) fun _ _ _ _ _ _ us hl => match us, hl with | [_, _, _, _], _ => rfl
  have F19 := fun_mk (st := s19) l19 q19 k19
  have b19 := F19.binds (ps := ["tape", "menu", "edits"]) fun _ _ _ _ _ _ us hl => match us, hl with | [_, _, _], _ => rfl
  have F20 := fun_mk (st := s20) l20 q20 k20
  have b20 := F20.binds (ps := ["tape", "menu", "most"]) fun _ _ _ _ _ _ us hl => match us, hl with | [_, _, _], _ => rfl
  have F21 := fun_mk (st := s21) l21 q21 k21
  have b21 := F21.binds (ps := ["tape", "menu", "lines"]) fun _ _ _ _ _ _ us hl => match us, hl with | [_, _, _], _ => rfl
  have F22 := fun_mk (st := s22) l22 q22 k22
  have b22 := F22.binds (ps := ["edits"]) fun _ _ _ _ _ _ us hl => match us, hl with | [_], _ => rfl
  have F23 := fun_mk (st := s23) l23 q23 k23
  have b23 := F23.binds (ps := ["edits"]) fun _ _ _ _ _ _ us hl => match us, hl with | [_], _ => rfl
  have F24 := fun_mk (st := s24) l24 q24 k24
  have b24 := F24.binds (ps := ["script"]) fun _ _ _ _ _ _ us hl => match us, hl with | [_], _ => rfl
  let fa : Nat → Addr := fun i => match i with | 0 => f0 | 1 => f1 | 2 => f2 | 3 => f3 | 4 => f4 | 5 => f5 | 6 => f6 | 7 => f7 | 8 => f8 | 9 => f9 | 10 => f10 | 11 => f11 | 12 => f12 | 13 => f13 | 14 => f14 | 15 => f15 | 16 => f16 | 17 => f17 | 18 => f18 | 19 => f19 | 20 => f20 | 21 => f21 | 22 => f22 | 23 => f23 | _ => fl
  let fdd : Nat → FuncData := fun i => match i with | 0 => PySem.W.fnOf "applies" "applies" (defArgs s0) (defBody s0) (defScope s0) .none kV0 dc0 pm0 an0 cd0 ct0 | 1 => PySem.W.fnOf "end_of" "end_of" (defArgs s1) (defBody s1) (defScope s1) .none kV1 dc1 pm1 an1 cd1 ct1 | 2 => PySem.W.fnOf "in_order" "in_order" (defArgs s2) (defBody s2) (defScope s2) .none kV2 dc2 pm2 an2 cd2 ct2 | 3 => PySem.W.fnOf "apply_edits" "apply_edits" (defArgs s3) (defBody s3) (defScope s3) .none kV3 dc3 pm3 an3 cd3 ct3 | 4 => PySem.W.fnOf "line_origins" "line_origins" (defArgs s4) (defBody s4) (defScope s4) .none kV4 dc4 pm4 an4 cd4 ct4 | 5 => PySem.W.fnOf "inverse_edits" "inverse_edits" (defArgs s5) (defBody s5) (defScope s5) .none kV5 dc5 pm5 an5 cd5 ct5 | 6 => PySem.W.fnOf "_line_from" "_line_from" (defArgs s6) (defBody s6) (defScope s6) .none kV6 dc6 pm6 an6 cd6 ct6 | 7 => PySem.W.fnOf "_law_tape" "_law_tape" (defArgs s7) (defBody s7) (defScope s7) .none kV7 dc7 pm7 an7 cd7 ct7 | 8 => PySem.W.fnOf "_law_draw" "_law_draw" (defArgs s8) (defBody s8) (defScope s8) .none kV8 dc8 pm8 an8 cd8 ct8 | 9 => PySem.W.fnOf "_law_same" "_law_same" (defArgs s9) (defBody s9) (defScope s9) .none kV9 dc9 pm9 an9 cd9 ct9 | 10 => PySem.W.fnOf "_law_menu" "_law_menu" (defArgs s10) (defBody s10) (defScope s10) .none kV10 dc10 pm10 an10 cd10 ct10 | 11 => PySem.W.fnOf "_law_lines" "_law_lines" (defArgs s11) (defBody s11) (defScope s11) .none kV11 dc11 pm11 an11 cd11 ct11 | 12 => PySem.W.fnOf "_law_row" "_law_row" (defArgs s12) (defBody s12) (defScope s12) .none kV12 dc12 pm12 an12 cd12 ct12 | 13 => PySem.W.fnOf "_law_end" "_law_end" (defArgs s13) (defBody s13) (defScope s13) .none kV13 dc13 pm13 an13 cd13 ct13 | 14 => PySem.W.fnOf "_law_ordered" "_law_ordered" (defArgs s14) (defBody s14) (defScope s14) .none kV14 dc14 pm14 an14 cd14 ct14 | 15 => PySem.W.fnOf "_law_fits" "_law_fits" (defArgs s15) (defBody s15) (defScope s15) .none kV15 dc15 pm15 an15 cd15 ct15 | 16 => PySem.W.fnOf "_law_applied" "_law_applied" (defArgs s16) (defBody s16) (defScope s16) .none kV16 dc16 pm16 an16 cd16 ct16 | 17 => PySem.W.fnOf "_law_fit_edits" "_law_fit_edits" (defArgs s17) (defBody s17) (defScope s17) .none kV17 dc17 pm17 an17 cd17 ct17 | 18 => PySem.W.fnOf "_law_loose_edits" "_law_loose_edits" (defArgs s18) (defBody s18) (defScope s18) .none kV18 dc18 pm18 an18 cd18 ct18 | 19 => PySem.W.fnOf "_law_spoilt" "_law_spoilt" (defArgs s19) (defBody s19) (defScope s19) .none kV19 dc19 pm19 an19 cd19 ct19 | 20 => PySem.W.fnOf "_law_wild_edits" "_law_wild_edits" (defArgs s20) (defBody s20) (defScope s20) .none kV20 dc20 pm20 an20 cd20 ct20 | 21 => PySem.W.fnOf "_law_some_edits" "_law_some_edits" (defArgs s21) (defBody s21) (defScope s21) .none kV21 dc21 pm21 an21 cd21 ct21 | 22 => PySem.W.fnOf "_law_refused" "_law_refused" (defArgs s22) (defBody s22) (defScope s22) .none kV22 dc22 pm22 an22 cd22 ct22 | 23 => PySem.W.fnOf "_law_due" "_law_due" (defArgs s23) (defBody s23) (defScope s23) .none kV23 dc23 pm23 an23 cd23 ct23 | _ => PySem.W.fnOf "law" "law" (defArgs s24) (defBody s24) (defScope s24) .none kV24 dc24 pm24 an24 cd24 ct24
  refine ⟨PySem.W.fnOf "law" "law" (defArgs s24) (defBody s24) (defScope s24) .none kV24 dc24 pm24 an24 cd24 ct24, [], spLaw K, ?_, ?_, ?_, fun s v => .of_eq rfl, fun H a ns hl _ hH hS => ⟨a, ns, rfl, hS, hl, ?_, fun _ => rfl⟩, fun base _ _ hTB => ?_⟩
  · intro p hp; simp at hp
  · intro p hp; simp at hp
  · intro p hp; simp at hp
  · intro p hp
    replace hp : p ∈ ([] : List (Addr × Str)) := hp
    simp at hp
  have B : ∀ x ∈ bnames, mg x = none := by
    intro x hx
    simp only [bnames, List.mem_cons, List.not_mem_nil, or_false] at hx
    rcases hx with rfl | rfl | rfl | rfl | rfl | rfl | rfl | rfl | rfl | rfl | rfl | rfl | rfl | rfl | rfl | rfl | rfl | rfl | rfl | rfl | rfl
    · exact PySem.W.mg_none_of X G z0
    · exact PySem.W.mg_none_of X G z1
    · exact PySem.W.mg_none_of X G z2
    · exact PySem.W.mg_none_of X G z3
    · exact PySem.W.mg_none_of X G z4
    · exact PySem.W.mg_none_of X G z5
    · exact PySem.W.mg_none_of X G z6
    · exact PySem.W.mg_none_of X G z7
    · exact PySem.W.mg_none_of X G z8
    · exact PySem.W.mg_none_of X G z9
    · exact PySem.W.mg_none_of X G z10
    · exact PySem.W.mg_none_of X G z11
    · exact PySem.W.mg_none_of X G z12
    · exact PySem.W.mg_none_of X G z13
    · exact PySem.W.mg_none_of X G z14
    · exact PySem.W.mg_none_of X G z15
    · exact PySem.W.mg_none_of X G z16
    · exact PySem.W.mg_none_of X G z17
    · exact PySem.W.mg_none_of X G z18
    · exact PySem.W.mg_none_of X G z19
    · exact PySem.W.mg_none_of X G z20
  have FunS := fun_mk (st := sS) lS qS kS
  have m0_ := PySem.W.mg_of X G n0_
  have m1_ := PySem.W.mg_of X G n1_
  have m2_ := PySem.W.mg_of X G n2_
  have m3_ := PySem.W.mg_of X G n3_
  have m4_ := PySem.W.mg_of X G n4_
  have m5_ := PySem.W.mg_of X G n5_
  have m6_ := PySem.W.mg_of X G n6_
  have m7_ := PySem.W.mg_of X G n7_
  have m8_ := PySem.W.mg_of X G n8_
  have m9_ := PySem.W.mg_of X G n9_
  have m10_ := PySem.W.mg_of X G n10_
  have m11_ := PySem.W.mg_of X G n11_
  have m12_ := PySem.W.mg_of X G n12_
  have m13_ := PySem.W.mg_of X G n13_
  have m14_ := PySem.W.mg_of X G n14_
  have m15_ := PySem.W.mg_of X G n15_
  have m16_ := PySem.W.mg_of X G n16_
  have m17_ := PySem.W.mg_of X G n17_
  have m18_ := PySem.W.mg_of X G n18_
  have m19_ := PySem.W.mg_of X G n19_
  have mV := PySem.W.mg_none_of X G nV
  have RO := fun sc N pr k cd => chk_raise (P := l.prog) (w := w) (base := base) xK m1_ sc N pr k (exOf xc) cd
  have FS := single_ok (P := l.prog) (w := w) (base := base) (mg := mg) (k := 0) FunS scS (chk_ec xK) rfl (PySem.W.mg_none_of X G z10) rfl rfl (bodyS m0_ m1_ m2_ m3_ m4_ m5_ m6_ m7_ m8_ m9_ m10_ m11_ m12_ m13_ m14_ m15_ m16_ m17_ m18_ m19_ mV t0_ t1_ t2_ t3_ t4_ t5_ t6_ t7_ t8_ t9_ t10_ t11_ t12_ t13_ t14_ t15_ t16_ t17_ t18_ t19_ tV_)
  have bS := FunS.binds (ps := [("e" : Str)]) fun _ _ _ _ _ _ us hl => match us, hl with | [_], _ => rfl
  have SG := fun sc N pr k cd => sgl_mk (P := l.prog) (w := w) (base := base) xK m1_ (PySem.W.mg_of X G aS) kS bS FS sc N pr k cd
  have T := lv (P := l.prog) (w := w) (base := base) (fa := fa) (fdd := fdd) RO SG F0 F1 F2 F3 F4 F5 F6 F7 F8 F9 F10 F11 F12 F13 F14 F15 F16 F17 F18 F19 F20 F21 F22 F23 F24 (PySem.W.mg_of X G a0) (PySem.W.mg_of X G a1) (PySem.W.mg_of X G a2) (PySem.W.mg_of X G a3) (PySem.W.mg_of X G a4) (PySem.W.mg_of X G a5) (PySem.W.mg_of X G a6) (PySem.W.mg_of X G a7) (PySem.W.mg_of X G a8) (PySem.W.mg_of X G a9) (PySem.W.mg_of X G a10) (PySem.W.mg_of X G a11) (PySem.W.mg_of X G a12) (PySem.W.mg_of X G a13) (PySem.W.mg_of X G a14) (PySem.W.mg_of X G a15) (PySem.W.mg_of X G a16) (PySem.W.mg_of X G a17) (PySem.W.mg_of X G a18) (PySem.W.mg_of X G a19) (PySem.W.mg_of X G a20) (PySem.W.mg_of X G a21) (PySem.W.mg_of X G a22) (PySem.W.mg_of X G a23) (PySem.W.mg_of X G a24) (shok_pos 2 rfl b0) (shok_pos 1 rfl b1) (shok_pos 1 rfl b2) (shok_pos 2 rfl b3) (shok_pos 2 rfl b4) (shok_pos 1 rfl b5) (shok_pos 3 rfl b6) (shok_pos 1 rfl b7) (shok_pos 2 rfl b8) (shok_pos 2 rfl b9) (shok_pos 1 rfl b10) (shok_pos 3 rfl b11) (shok_pos 2 rfl b12) (shok_pos 1 rfl b13) (shok_pos 1 rfl b14) (shok_pos 2 rfl b15) (shok_pos 2 rfl b16) (shok_pos 5 rfl b17) (shok_pos 4 rfl b18) (shok_pos 3 rfl b19) (shok_pos 3 rfl b20) (shok_pos 3 rfl b21) (shok_pos 1 rfl b22) (shok_pos 1 rfl b23) (shok_pos 1 rfl b24) B 100
  exact (T.1.at_ 24 _ rfl).2.2.imp (law_imp rfl pure)
end K28
namespace K28
open PySem L2 G
set_option maxHeartbeats 0 in
theorem q1 : ∀ (n : Nat), 1 ≤ n → ∀ (edit : D), FqP (f_end_of edit) (calls dfs (shsOf tt) n 1 [.val edit]) (fun c => R.val c) [.val edit] := by
  intro n hn edit
  obtain ⟨n, rfl⟩ : ∃ k, n = k + 1 := ⟨n - 1, by omega⟩
  rw [calls_succ (d := d1) rfl]
  refine fq_pure (ds := [edit]) rfl ?_
  change L _ _ (evB _ _ d1.body [some (.val edit), none, none, none]) _
  unfold f_end_of
  refine b_asg ?_
  refine x_var rfl ?_
  refine a_multi rfl ?_
  refine a_three fun p1 => ?_
  refine a_nm (nv1 := [some (.val edit), some (.val p1.1), none, none]) rfl ?_
  refine a_nm (nv1 := [some (.val edit), some (.val p1.1), some (.val p1.2.1), none]) rfl ?_
  refine a_nm (nv1 := [some (.val edit), some (.val p1.1), some (.val p1.2.1), some (.val p1.2.2)]) rfl ?_
  refine b_ret ?_
  refine x_op2 ?_
  refine o_var rfl ?_
  refine o_exp rfl ?_
  refine x_op1 ?_
  refine o_var rfl ?_
  refine z_op1 rfl fun r2 => ?_
  refine z_op2 rfl rfl fun r3 => ?_
  exact qf_ret rfl trivial
set_option maxHeartbeats 0 in
theorem q0 : ∀ (n : Nat), 2 ≤ n → ∀ (lines : D) (edit : D), FqP (f_applies lines edit) (calls dfs (shsOf tt) n 0 [.val lines, .val edit]) (fun c => R.val c) [.val lines, .val edit] := by
  intro n hn lines edit
  obtain ⟨n, rfl⟩ : ∃ k, n = k + 1 := ⟨n - 1, by omega⟩
  rw [calls_succ (d := d0) rfl]
  refine fq_pure (ds := [lines, edit]) rfl ?_
  change L _ _ (evB _ _ d0.body [some (.val lines), some (.val edit), none, none, none, none]) _
  unfold f_applies
  refine b_asg ?_
  refine x_var rfl ?_
  refine a_multi rfl ?_
  refine a_three fun p1 => ?_
  refine a_nm (nv1 := [some (.val lines), some (.val edit), some (.val p1.1), none, none, none]) rfl ?_
  refine a_nm (nv1 := [some (.val lines), some (.val edit), some (.val p1.1), some (.val p1.2.1), none, none]) rfl ?_
  refine a_nm (nv1 := [some (.val lines), some (.val edit), some (.val p1.1), some (.val p1.2.1), some (.val p1.2.2), none]) rfl ?_
  refine b_asg ?_
  refine x_call ?_
  refine g_cons rfl ?_
  refine x_var rfl ?_
  refine g_nil ?_
  refine z_callP (ds := [edit]) (q1 _ (by omega) edit) rfl trivial fun r2 => ?_
  refine s_asg (nv1 := [some (.val lines), some (.val edit), some (.val p1.1), some (.val p1.2.1), some (.val p1.2.2), some (.val r2)]) rfl ?_
  refine b_ret ?_
  refine x_and ?_
  refine x_op2 ?_
  refine o_var rfl ?_
  refine o_exp rfl ?_
  refine x_int ?_
  refine z_op2 rfl rfl fun r3 => ?_
  refine z_and ?_ fun r11 => ?_
  · refine e_end ?_
    refine x_and ?_
    refine x_op2 ?_
    refine o_var rfl ?_
    refine o_exp rfl ?_
    refine x_op1 ?_
    refine o_var rfl ?_
    refine z_op1 rfl fun r4 => ?_
    refine z_op2 rfl rfl fun r5 => ?_
    refine z_and ?_ fun r10 => ?_
    · refine e_end ?_
      refine x_op2 ?_
      refine o_exp rfl ?_
      refine x_slc ?_
      refine o_var rfl ?_
      refine x_var rfl ?_
      refine s_loE rfl fun i6 => ?_
      refine x_var rfl ?_
      refine s_hiE rfl fun i7 => ?_
      refine z_slc rfl fun r8 => ?_
      refine o_var rfl ?_
      refine z_op2 rfl rfl fun r9 => ?_
      exact qe_ok rfl rfl
    exact qe_ok rfl rfl
  exact qf_ret rfl trivial
set_option maxHeartbeats 0 in
theorem q2 : ∀ (n : Nat), 2 ≤ n → ∀ (edits : D), FqP (f_in_order edits) (calls dfs (shsOf tt) n 2 [.val edits]) (fun c => R.val c) [.val edits] := by
  intro n hn edits
  obtain ⟨n, rfl⟩ : ∃ k, n = k + 1 := ⟨n - 1, by omega⟩
  rw [calls_succ (d := d2) rfl]
  refine fq_pure (ds := [edits]) rfl ?_
  change L _ _ (evB _ _ d2.body [some (.val edits), none, none]) _
  unfold f_in_order
  refine b_ret ?_
  refine x_op1 ?_
  refine o_exp rfl ?_
  refine x_comp ?_
  refine g_cons rfl ?_
  refine x_var rfl ?_
  refine g_cons rfl ?_
  refine x_slc ?_
  refine o_var rfl ?_
  refine x_int ?_
  refine s_loE rfl fun i1 => ?_
  refine s_hiN ?_
  refine z_slc rfl fun r2 => ?_
  refine g_nil ?_
  refine z_map [some (.val edits), none, none] rfl rfl rfl (fun d3 => ?_) fun ys10 => ?_
  · refine t_go ?_
    refine a_two fun p6 => ?_
    refine a_nm (nv1 := [some (.val edits), some (.val p6.1), none]) rfl ?_
    refine a_nm (nv1 := [some (.val edits), some (.val p6.1), some (.val p6.2)]) rfl ?_
    refine c_nil ?_
    refine t_true ?_
    refine x_op2 ?_
    refine o_exp rfl ?_
    refine x_call ?_
    refine g_cons rfl ?_
    refine x_var rfl ?_
    refine g_nil ?_
    refine z_callP (ds := [p6.1]) (q1 _ (by omega) p6.1) rfl trivial fun r7 => ?_
    refine o_exp rfl ?_
    refine x_op2 ?_
    refine o_var rfl ?_
    refine o_exp rfl ?_
    refine x_int ?_
    refine z_op2 rfl rfl fun r8 => ?_
    refine z_op2 rfl rfl fun r9 => ?_
    exact qt rfl
  refine z_op1 rfl fun r11 => ?_
  exact qf_ret rfl trivial
set_option maxHeartbeats 0 in
theorem q4 : ∀ (n : Nat), 3 ≤ n → ∀ (lines : D) (edits : D), FqP (f_line_origins lines edits) (calls dfs (shsOf tt) n 4 [.val lines, .val edits]) (fun c => R.val c) [.val lines, .val edits] := by
  intro n hn lines edits
  obtain ⟨n, rfl⟩ : ∃ k, n = k + 1 := ⟨n - 1, by omega⟩
  rw [calls_succ (d := d4) rfl]
  refine fq_pure (ds := [lines, edits]) rfl ?_
  change L _ _ (evB _ _ d4.body [some (.val lines), some (.val edits), none, none, none, none, none]) _
  unfold f_line_origins
  refine b_ife ?_
  refine x_or ?_
  refine x_not ?_
  refine x_op1 ?_
  refine o_exp rfl ?_
  refine x_call ?_
  refine g_cons rfl ?_
  refine x_var rfl ?_
  refine g_nil ?_
  refine z_callP (ds := [edits]) (q2 _ (by omega) edits) rfl trivial fun r1 => ?_
  refine z_op1 rfl fun r2 => ?_
  refine z_not fun r3 => ?_
  refine z_or ?_ fun r12 => ?_
  · refine e_end ?_
    refine x_not ?_
    refine x_op1 ?_
    refine o_exp rfl ?_
    refine x_op1 ?_
    refine o_exp rfl ?_
    refine x_comp ?_
    refine g_cons rfl ?_
    refine x_var rfl ?_
    refine g_nil ?_
    refine z_map [some (.val lines), some (.val edits), none, none, none, none, none] rfl rfl rfl (fun d4 => ?_) fun ys8 => ?_
    · refine t_go ?_
      refine a_nm (nv1 := [some (.val lines), some (.val edits), some (.val d4), none, none, none, none]) rfl ?_
      refine c_nil ?_
      refine t_true ?_
      refine x_call ?_
      refine g_cons rfl ?_
      refine x_var rfl ?_
      refine g_cons rfl ?_
      refine x_var rfl ?_
      refine g_nil ?_
      refine z_callP (ds := [lines, d4]) (q0 _ (by omega) lines d4) rfl trivial fun r7 => ?_
      exact qt rfl
    refine z_op1 rfl fun r9 => ?_
    refine z_op1 rfl fun r10 => ?_
    refine z_not fun r11 => ?_
    exact qe_ok rfl rfl
  refine z_ife ?_ ?_
  · refine b_ret ?_
    refine x_non ?_
    exact qf_ret rfl trivial
  · refine b_asg ?_
    refine x_lst ?_
    refine g_nil ?_
    refine z_lst (ds := []) rfl rfl ?_
    refine s_asg (nv1 := [some (.val lines), some (.val edits), none, some (.lv (.l true) []), none, none, none]) rfl ?_
    refine b_asg ?_
    refine x_int ?_
    refine s_asg (nv1 := [some (.val lines), some (.val edits), none, some (.lv (.l true) []), some (.val (D.int 0)), none, none]) rfl ?_
    refine b_kill (nv1 := [some (.val lines), some (.val edits), none, some (.lv (.l true) []), some (.val (D.int 0)), none, none]) rfl ?_
    refine b_for ?_
    refine g_cons rfl ?_
    refine x_var rfl ?_
    refine g_nil ?_
    refine z_fold (g := fun s13 => [some (.val lines), some (.val edits), none, some (.lv (.l true) s13.1), some (.val s13.2), none, none]) rfl rfl (fun d15 s13 => ?_) fun s14 => ?_
    · refine a_two fun p17 => ?_
      refine a_nm (nv1 := [some (.val lines), some (.val edits), none, some (.lv (.l true) s13.1), some (.val s13.2), some (.val p17.1), none]) rfl ?_
      refine a_nm (nv1 := [some (.val lines), some (.val edits), some (.val p17.2), some (.lv (.l true) s13.1), some (.val s13.2), some (.val p17.1), none]) rfl ?_
      refine b_expr ?_
      refine x_mth rfl ?_
      refine g_cons rfl ?_
      refine x_comp ?_
      refine g_cons rfl ?_
      refine x_var rfl ?_
      refine g_cons rfl ?_
      refine x_op2 ?_
      refine o_var rfl ?_
      refine o_exp rfl ?_
      refine x_int ?_
      refine z_op2 rfl rfl fun r18 => ?_
      refine g_nil ?_
      refine z_map [some (.val lines), some (.val edits), some (.val p17.2), some (.lv (.l true) s13.1), some (.val s13.2), some (.val p17.1), none] rfl rfl rfl (fun d19 => ?_) fun ys22 => ?_
      · refine t_go ?_
        refine a_nm (nv1 := [some (.val lines), some (.val edits), some (.val p17.2), some (.lv (.l true) s13.1), some (.val s13.2), some (.val p17.1), some (.val d19)]) rfl ?_
        refine c_nil ?_
        refine t_true ?_
        refine x_tup ?_
        refine g_cons rfl ?_
        refine x_str ?_
        refine g_cons rfl ?_
        refine x_var rfl ?_
        refine g_nil ?_
        refine z_tup (ds := [(D.str "kept"), d19]) rfl rfl ?_
        exact qt rfl
      refine g_nil ?_
      refine z_mth (ds := [(D.lst ys22)]) (g := fun l33 => [some (.val lines), some (.val edits), some (.val p17.2), some (.lv (.l true) l33), some (.val s13.2), some (.val p17.1), none]) rfl rfl (fun _ => rfl) fun p23 => ?_
      refine b_expr ?_
      refine x_mth rfl ?_
      refine g_cons rfl ?_
      refine x_comp ?_
      refine g_cons rfl ?_
      refine x_op1 ?_
      refine o_exp rfl ?_
      refine x_op2 ?_
      refine o_var rfl ?_
      refine o_exp rfl ?_
      refine x_int ?_
      refine z_op2 rfl rfl fun r24 => ?_
      refine z_op1 rfl fun r25 => ?_
      refine g_nil ?_
      refine z_map [some (.val lines), some (.val edits), some (.val p17.2), some (.lv (.l true) p23.2), some (.val s13.2), some (.val p17.1), none] rfl rfl rfl (fun d26 => ?_) fun ys29 => ?_
      · refine t_go ?_
        refine a_nm (nv1 := [some (.val lines), some (.val edits), some (.val p17.2), some (.lv (.l true) p23.2), some (.val s13.2), some (.val p17.1), some (.val d26)]) rfl ?_
        refine c_nil ?_
        refine t_true ?_
        refine x_tup ?_
        refine g_cons rfl ?_
        refine x_str ?_
        refine g_cons rfl ?_
        refine x_var rfl ?_
        refine g_cons rfl ?_
        refine x_var rfl ?_
        refine g_nil ?_
        refine z_tup (ds := [(D.str "inserted"), p17.1, d26]) rfl rfl ?_
        exact qt rfl
      refine g_nil ?_
      refine z_mth (ds := [(D.lst ys29)]) (g := fun l32 => [some (.val lines), some (.val edits), some (.val p17.2), some (.lv (.l true) l32), some (.val s13.2), some (.val p17.1), none]) rfl rfl (fun _ => rfl) fun p30 => ?_
      refine b_asg ?_
      refine x_call ?_
      refine g_cons rfl ?_
      refine x_var rfl ?_
      refine g_nil ?_
      refine z_callP (ds := [p17.2]) (q1 _ (by omega) p17.2) rfl trivial fun r31 => ?_
      refine s_asg (nv1 := [some (.val lines), some (.val edits), some (.val p17.2), some (.lv (.l true) p30.2), some (.val r31), some (.val p17.1), none]) rfl ?_
      refine b_kill (nv1 := [some (.val lines), some (.val edits), none, some (.lv (.l true) p30.2), some (.val r31), none, none]) rfl ?_
      refine b_nil ?_
      exact qn_nx rfl
    refine b_expr ?_
    refine x_mth rfl ?_
    refine g_cons rfl ?_
    refine x_comp ?_
    refine g_cons rfl ?_
    refine x_var rfl ?_
    refine g_cons rfl ?_
    refine x_op1 ?_
    refine o_var rfl ?_
    refine z_op1 rfl fun r34 => ?_
    refine g_nil ?_
    refine z_map [some (.val lines), some (.val edits), none, some (.lv (.l true) s14.1), some (.val s14.2), none, none] rfl rfl rfl (fun d35 => ?_) fun ys38 => ?_
    · refine t_go ?_
      refine a_nm (nv1 := [some (.val lines), some (.val edits), none, some (.lv (.l true) s14.1), some (.val s14.2), none, some (.val d35)]) rfl ?_
      refine c_nil ?_
      refine t_true ?_
      refine x_tup ?_
      refine g_cons rfl ?_
      refine x_str ?_
      refine g_cons rfl ?_
      refine x_var rfl ?_
      refine g_nil ?_
      refine z_tup (ds := [(D.str "kept"), d35]) rfl rfl ?_
      exact qt rfl
    refine g_nil ?_
    refine z_mth (ds := [(D.lst ys38)]) (g := fun l41 => [some (.val lines), some (.val edits), none, some (.lv (.l true) l41), some (.val s14.2), none, none]) rfl rfl (fun _ => rfl) fun p39 => ?_
    refine b_ret ?_
    refine x_op1 ?_
    refine o_var rfl ?_
    refine z_op1 rfl fun r40 => ?_
    exact qf_ret rfl trivial
set_option maxHeartbeats 0 in
theorem q6 : ∀ (n : Nat), 1 ≤ n → ∀ (lines : D) (edits : D) (origin : D), FqP (f_line_from lines edits origin) (calls dfs (shsOf tt) n 6 [.val lines, .val edits, .val origin]) (fun c => R.val c) [.val lines, .val edits, .val origin] := by
  intro n hn lines edits origin
  obtain ⟨n, rfl⟩ : ∃ k, n = k + 1 := ⟨n - 1, by omega⟩
  rw [calls_succ (d := d6) rfl]
  refine fq_pure (ds := [lines, edits, origin]) rfl ?_
  change L _ _ (evB _ _ d6.body [some (.val lines), some (.val edits), some (.val origin)]) _
  unfold f_line_from
  refine b_ife ?_
  refine x_op2 ?_
  refine o_exp rfl ?_
  refine x_op2 ?_
  refine o_var rfl ?_
  refine o_exp rfl ?_
  refine x_int ?_
  refine z_op2 rfl rfl fun r1 => ?_
  refine o_exp rfl ?_
  refine x_str ?_
  refine z_op2 rfl rfl fun r2 => ?_
  refine z_ife ?_ ?_
  · refine b_ret ?_
    refine x_op2 ?_
    refine o_var rfl ?_
    refine o_exp rfl ?_
    refine x_op2 ?_
    refine o_var rfl ?_
    refine o_exp rfl ?_
    refine x_int ?_
    refine z_op2 rfl rfl fun r3 => ?_
    refine z_op2 rfl rfl fun r4 => ?_
    exact qf_ret rfl trivial
  · refine b_ret ?_
    refine x_op2 ?_
    refine o_exp rfl ?_
    refine x_op2 ?_
    refine o_exp rfl ?_
    refine x_op2 ?_
    refine o_var rfl ?_
    refine o_exp rfl ?_
    refine x_op2 ?_
    refine o_var rfl ?_
    refine o_exp rfl ?_
    refine x_int ?_
    refine z_op2 rfl rfl fun r5 => ?_
    refine z_op2 rfl rfl fun r6 => ?_
    refine o_exp rfl ?_
    refine x_int ?_
    refine z_op2 rfl rfl fun r7 => ?_
    refine o_exp rfl ?_
    refine x_op2 ?_
    refine o_var rfl ?_
    refine o_exp rfl ?_
    refine x_int ?_
    refine z_op2 rfl rfl fun r8 => ?_
    refine z_op2 rfl rfl fun r9 => ?_
    exact qf_ret rfl trivial
set_option maxHeartbeats 0 in
theorem q3 : ∀ (n : Nat), 4 ≤ n → ∀ (lines : D) (edits : D), FqP (f_apply_edits lines edits) (calls dfs (shsOf tt) n 3 [.val lines, .val edits]) (fun c => R.val c) [.val lines, .val edits] := by
  intro n hn lines edits
  obtain ⟨n, rfl⟩ : ∃ k, n = k + 1 := ⟨n - 1, by omega⟩
  rw [calls_succ (d := d3) rfl]
  refine fq_pure (ds := [lines, edits]) rfl ?_
  change L _ _ (evB _ _ d3.body [some (.val lines), some (.val edits), none, none]) _
  unfold f_apply_edits
  refine b_asg ?_
  refine x_call ?_
  refine g_cons rfl ?_
  refine x_var rfl ?_
  refine g_cons rfl ?_
  refine x_var rfl ?_
  refine g_nil ?_
  refine z_callP (ds := [lines, edits]) (q4 _ (by omega) lines edits) rfl trivial fun r1 => ?_
  refine s_asg (nv1 := [some (.val lines), some (.val edits), some (.val r1), none]) rfl ?_
  refine b_ife ?_
  refine x_op1 ?_
  refine o_var rfl ?_
  refine z_op1 rfl fun r2 => ?_
  refine z_ife ?_ ?_
  · refine b_ret ?_
    refine x_non ?_
    exact qf_ret rfl trivial
  · refine b_ret ?_
    refine x_op1 ?_
    refine o_exp rfl ?_
    refine x_comp ?_
    refine g_cons rfl ?_
    refine x_var rfl ?_
    refine g_nil ?_
    refine z_map [some (.val lines), some (.val edits), some (.val r1), none] rfl rfl rfl (fun d3 => ?_) fun ys7 => ?_
    · refine t_go ?_
      refine a_nm (nv1 := [some (.val lines), some (.val edits), some (.val r1), some (.val d3)]) rfl ?_
      refine c_nil ?_
      refine t_true ?_
      refine x_call ?_
      refine g_cons rfl ?_
      refine x_var rfl ?_
      refine g_cons rfl ?_
      refine x_var rfl ?_
      refine g_cons rfl ?_
      refine x_var rfl ?_
      refine g_nil ?_
      refine z_callP (ds := [lines, edits, d3]) (q6 _ (by omega) lines edits d3) rfl trivial fun r6 => ?_
      exact qt rfl
    refine z_op1 rfl fun r8 => ?_
    exact qf_ret rfl trivial
set_option maxHeartbeats 0 in
theorem q5 : ∀ (n : Nat), 3 ≤ n → ∀ (edits : D), FqP (f_inverse_edits edits) (calls dfs (shsOf tt) n 5 [.val edits]) (fun c => R.val c) [.val edits] := by
  intro n hn edits
  obtain ⟨n, rfl⟩ : ∃ k, n = k + 1 := ⟨n - 1, by omega⟩
  rw [calls_succ (d := d5) rfl]
  refine fq_pure (ds := [edits]) rfl ?_
  change L _ _ (evB _ _ d5.body [some (.val edits), none, none, none, none, none]) _
  unfold f_inverse_edits
  refine b_ife ?_
  refine x_not ?_
  refine x_op1 ?_
  refine o_exp rfl ?_
  refine x_call ?_
  refine g_cons rfl ?_
  refine x_var rfl ?_
  refine g_nil ?_
  refine z_callP (ds := [edits]) (q2 _ (by omega) edits) rfl trivial fun r1 => ?_
  refine z_op1 rfl fun r2 => ?_
  refine z_not fun r3 => ?_
  refine z_ife ?_ ?_
  · exact b_rse trivial
  · refine b_asg ?_
    refine x_lst ?_
    refine g_nil ?_
    refine z_lst (ds := []) rfl rfl ?_
    refine s_asg (nv1 := [some (.val edits), some (.lv (.l true) []), none, none, none, none]) rfl ?_
    refine b_asg ?_
    refine x_int ?_
    refine s_asg (nv1 := [some (.val edits), some (.lv (.l true) []), some (.val (D.int 0)), none, none, none]) rfl ?_
    refine b_kill (nv1 := [some (.val edits), some (.lv (.l true) []), some (.val (D.int 0)), none, none, none]) rfl ?_
    refine b_for ?_
    refine g_cons rfl ?_
    refine x_var rfl ?_
    refine g_nil ?_
    refine z_fold (g := fun s4 => [some (.val edits), some (.lv (.l true) s4.1), some (.val s4.2), none, none, none]) rfl rfl (fun d6 s4 => ?_) fun s5 => ?_
    · refine a_three fun p8 => ?_
      refine a_nm (nv1 := [some (.val edits), some (.lv (.l true) s4.1), some (.val s4.2), some (.val p8.1), none, none]) rfl ?_
      refine a_nm (nv1 := [some (.val edits), some (.lv (.l true) s4.1), some (.val s4.2), some (.val p8.1), some (.val p8.2.1), none]) rfl ?_
      refine a_nm (nv1 := [some (.val edits), some (.lv (.l true) s4.1), some (.val s4.2), some (.val p8.1), some (.val p8.2.1), some (.val p8.2.2)]) rfl ?_
      refine b_expr ?_
      refine x_mth rfl ?_
      refine g_cons rfl ?_
      refine x_tup ?_
      refine g_cons rfl ?_
      refine x_op2 ?_
      refine o_var rfl ?_
      refine o_var rfl ?_
      refine z_op2 rfl rfl fun r9 => ?_
      refine g_cons rfl ?_
      refine x_var rfl ?_
      refine g_cons rfl ?_
      refine x_var rfl ?_
      refine g_nil ?_
      refine z_tup (ds := [r9, p8.2.2, p8.2.1]) rfl rfl ?_
      refine g_nil ?_
      refine z_app (g := fun l10 => [some (.val edits), some (.lv (.l true) l10), some (.val s4.2), some (.val p8.1), some (.val p8.2.1), some (.val p8.2.2)]) rfl (fun _ => rfl) fun l10 => ?_
      refine b_aug rfl ?_
      refine x_op2 ?_
      refine o_exp rfl ?_
      refine x_op1 ?_
      refine o_var rfl ?_
      refine z_op1 rfl fun r11 => ?_
      refine o_exp rfl ?_
      refine x_op1 ?_
      refine o_var rfl ?_
      refine z_op1 rfl fun r12 => ?_
      refine z_op2 rfl rfl fun r13 => ?_
      refine z_aug fun r14 => ?_
      refine s_slot (nv1 := [some (.val edits), some (.lv (.l true) l10), some (.val r14), some (.val p8.1), some (.val p8.2.1), some (.val p8.2.2)]) rfl ?_
      refine b_kill (nv1 := [some (.val edits), some (.lv (.l true) l10), some (.val r14), none, none, none]) rfl ?_
      refine b_nil ?_
      exact qn_nx rfl
    refine b_ret ?_
    refine x_op1 ?_
    refine o_var rfl ?_
    refine z_op1 rfl fun r15 => ?_
    exact qf_ret rfl trivial
set_option maxHeartbeats 0 in
theorem q7 : ∀ (n : Nat), 1 ≤ n → ∀ (script : D), FqP (f_law_tape script) (calls dfs (shsOf tt) n 7 [.val script]) (fun c => R.own c) [.val script] := by
  intro n hn script
  obtain ⟨n, rfl⟩ : ∃ k, n = k + 1 := ⟨n - 1, by omega⟩
  rw [calls_succ (d := d7) rfl]
  refine fq_pure (ds := [script]) rfl ?_
  change L _ _ (evB _ _ d7.body [some (.val script), none, none]) _
  unfold f_law_tape
  refine b_asg ?_
  refine x_int ?_
  refine s_asg (nv1 := [some (.val script), some (.val (D.int 7)), none]) rfl ?_
  refine b_kill (nv1 := [some (.val script), some (.val (D.int 7)), none]) rfl ?_
  refine b_for ?_
  refine g_cons rfl ?_
  refine x_var rfl ?_
  refine g_nil ?_
  refine z_fold (g := fun s1 => [some (.val script), some (.val s1), none]) rfl rfl (fun d3 s1 => ?_) fun s2 => ?_
  · refine a_nm (nv1 := [some (.val script), some (.val s1), some (.val d3)]) rfl ?_
    refine b_asg ?_
    refine x_op2 ?_
    refine o_exp rfl ?_
    refine x_op1 ?_
    refine o_exp rfl ?_
    refine x_op2 ?_
    refine o_exp rfl ?_
    refine x_op2 ?_
    refine o_var rfl ?_
    refine o_exp rfl ?_
    refine x_int ?_
    refine z_op2 rfl rfl fun r5 => ?_
    refine o_exp rfl ?_
    refine x_op1 ?_
    refine o_exp rfl ?_
    refine x_op1 ?_
    refine o_var rfl ?_
    refine z_op1 rfl fun r6 => ?_
    refine z_op1 rfl fun r7 => ?_
    refine z_op2 rfl rfl fun r8 => ?_
    refine z_op1 rfl fun r9 => ?_
    refine o_exp rfl ?_
    refine x_int ?_
    refine z_op2 rfl rfl fun r10 => ?_
    refine s_asg (nv1 := [some (.val script), some (.val r10), some (.val d3)]) rfl ?_
    refine b_kill (nv1 := [some (.val script), some (.val r10), none]) rfl ?_
    refine b_nil ?_
    exact qn_nx rfl
  refine b_ret ?_
  refine x_lst ?_
  refine g_cons rfl ?_
  refine x_op1 ?_
  refine o_var rfl ?_
  refine z_op1o rfl fun r11 => ?_
  refine g_cons rfl ?_
  refine x_int ?_
  refine g_cons rfl ?_
  refine x_int ?_
  refine g_cons rfl ?_
  refine x_var rfl ?_
  refine g_nil ?_
  refine z_lst (ds := [(D.lst r11), (D.int 0), (D.int 0), s2]) rfl rfl ?_
  exact qf_ret rfl trivial
set_option maxHeartbeats 0 in
theorem q8 : ∀ (n : Nat), 1 ≤ n → ∀ (tape : List D) (many : D), FqL (f_law_draw tape many) (calls dfs (shsOf tt) n 8 [.lv (.l false) tape, .val many]) (fun c => R.val c.1) (fun c => [.lv (.l false) c.2, .val many]) := by
  intro n hn tape many
  obtain ⟨n, rfl⟩ : ∃ k, n = k + 1 := ⟨n - 1, by omega⟩
  rw [calls_succ (d := d8) rfl]
  refine fq_lent (X := fun _ => True) rfl ?_
  change L _ _ (evB _ _ d8.body [some (.lv (.l false) tape), some (.val many), none, none]) _
  unfold f_law_draw
  refine b_ife ?_
  refine x_op2 ?_
  refine o_exp rfl ?_
  refine x_op2 ?_
  refine o_var rfl ?_
  refine o_exp rfl ?_
  refine x_int ?_
  refine z_op2 rfl rfl fun r1 => ?_
  refine o_exp rfl ?_
  refine x_int ?_
  refine z_op2 rfl rfl fun r2 => ?_
  refine z_ife ?_ ?_
  · refine b_asg ?_
    refine x_op2 ?_
    refine o_var rfl ?_
    refine o_exp rfl ?_
    refine x_int ?_
    refine z_op2 rfl rfl fun r3 => ?_
    refine s_asg (nv1 := [some (.lv (.l false) tape), some (.val many), some (.val r3), none]) rfl ?_
    refine b_asg ?_
    refine x_int ?_
    refine s_asg (nv1 := [some (.lv (.l false) tape), some (.val many), some (.val r3), some (.val (D.int 0))]) rfl ?_
    refine b_ife ?_
    refine x_op2 ?_
    refine o_var rfl ?_
    refine o_exp rfl ?_
    refine x_op1 ?_
    refine o_exp rfl ?_
    refine x_op2 ?_
    refine o_var rfl ?_
    refine o_exp rfl ?_
    refine x_int ?_
    refine z_op2 rfl rfl fun r4 => ?_
    refine z_op1 rfl fun r5 => ?_
    refine z_op2 rfl rfl fun r6 => ?_
    refine z_ifj (g := fun s19 => [some (.lv (.l false) s19.1), some (.val many), some (.val r3), some (.val s19.2)]) ?_ ?_ fun s19 => ?_
    · refine b_asg ?_
      refine x_op1 ?_
      refine o_exp rfl ?_
      refine x_op1 ?_
      refine o_exp rfl ?_
      refine x_op2 ?_
      refine o_exp rfl ?_
      refine x_op2 ?_
      refine o_var rfl ?_
      refine o_exp rfl ?_
      refine x_int ?_
      refine z_op2 rfl rfl fun r7 => ?_
      refine o_var rfl ?_
      refine z_op2 rfl rfl fun r8 => ?_
      refine z_op1 rfl fun r9 => ?_
      refine z_op1 rfl fun r10 => ?_
      refine s_asg (nv1 := [some (.lv (.l false) tape), some (.val many), some (.val r3), some (.val r10)]) rfl ?_
      refine b_kill (nv1 := [some (.lv (.l false) tape), some (.val many), some (.val r3), some (.val r10)]) rfl ?_
      refine b_nil ?_
      exact qj_ok rfl
    · refine b_sti ?_
      refine x_op2 ?_
      refine o_exp rfl ?_
      refine x_op1 ?_
      refine o_exp rfl ?_
      refine x_op2 ?_
      refine o_exp rfl ?_
      refine x_op2 ?_
      refine o_exp rfl ?_
      refine x_op2 ?_
      refine o_exp rfl ?_
      refine x_op2 ?_
      refine o_var rfl ?_
      refine o_exp rfl ?_
      refine x_int ?_
      refine z_op2 rfl rfl fun r11 => ?_
      refine o_exp rfl ?_
      refine x_int ?_
      refine z_op2 rfl rfl fun r12 => ?_
      refine o_var rfl ?_
      refine z_op2 rfl rfl fun r13 => ?_
      refine o_exp rfl ?_
      refine x_int ?_
      refine z_op2 rfl rfl fun r14 => ?_
      refine z_op1 rfl fun r15 => ?_
      refine o_exp rfl ?_
      refine x_int ?_
      refine z_op2 rfl rfl fun r16 => ?_
      refine s_sti rfl ?_
      refine x_int ?_
      refine z_st (g := fun l17 => [some (.lv (.l false) l17), some (.val many), some (.val r3), some (.val (D.int 0))]) rfl (fun _ => rfl) fun l17 => ?_
      refine b_asg ?_
      refine x_op2 ?_
      refine o_var rfl ?_
      refine o_exp rfl ?_
      refine x_int ?_
      refine z_op2 rfl rfl fun r18 => ?_
      refine s_asg (nv1 := [some (.lv (.l false) l17), some (.val many), some (.val r3), some (.val r18)]) rfl ?_
      refine b_kill (nv1 := [some (.lv (.l false) l17), some (.val many), some (.val r3), some (.val r18)]) rfl ?_
      refine b_nil ?_
      exact qj_ok rfl
    refine b_sti ?_
    refine x_op2 ?_
    refine o_var rfl ?_
    refine o_exp rfl ?_
    refine x_int ?_
    refine z_op2 rfl rfl fun r20 => ?_
    refine s_sti rfl ?_
    refine x_int ?_
    refine z_st (g := fun l21 => [some (.lv (.l false) l21), some (.val many), some (.val r3), some (.val s19.2)]) rfl (fun _ => rfl) fun l21 => ?_
    refine b_ife ?_
    refine x_op2 ?_
    refine o_var rfl ?_
    refine o_exp rfl ?_
    refine x_op2 ?_
    refine o_exp rfl ?_
    refine x_int ?_
    refine o_exp rfl ?_
    refine x_int ?_
    refine z_op2 rfl rfl fun r22 => ?_
    refine z_op2 rfl rfl fun r23 => ?_
    refine z_ife ?_ ?_
    · refine b_asg ?_
      refine x_op2 ?_
      refine o_exp rfl ?_
      refine x_op1 ?_
      refine o_exp rfl ?_
      refine x_op2 ?_
      refine o_exp rfl ?_
      refine x_op2 ?_
      refine o_exp rfl ?_
      refine x_op2 ?_
      refine o_var rfl ?_
      refine o_exp rfl ?_
      refine x_int ?_
      refine z_op2 rfl rfl fun r24 => ?_
      refine o_exp rfl ?_
      refine x_op2 ?_
      refine o_var rfl ?_
      refine o_exp rfl ?_
      refine x_int ?_
      refine z_op2 rfl rfl fun r25 => ?_
      refine z_op2 rfl rfl fun r26 => ?_
      refine o_exp rfl ?_
      refine x_int ?_
      refine z_op2 rfl rfl fun r27 => ?_
      refine z_op1 rfl fun r28 => ?_
      refine o_exp rfl ?_
      refine x_int ?_
      refine z_op2 rfl rfl fun r29 => ?_
      refine s_asg (nv1 := [some (.lv (.l false) l21), some (.val many), some (.val r3), some (.val r29)]) rfl ?_
      refine b_asg ?_
      refine x_op2 ?_
      refine o_exp rfl ?_
      refine x_op1 ?_
      refine o_exp rfl ?_
      refine x_op2 ?_
      refine o_var rfl ?_
      refine o_exp rfl ?_
      refine x_int ?_
      refine z_op2 rfl rfl fun r30 => ?_
      refine z_op1 rfl fun r31 => ?_
      refine o_exp rfl ?_
      refine x_int ?_
      refine z_op2 rfl rfl fun r32 => ?_
      refine s_asg (nv1 := [some (.lv (.l false) l21), some (.val many), some (.val r3), some (.val r32)]) rfl ?_
      refine b_ret ?_
      refine x_op2 ?_
      refine o_exp rfl ?_
      refine x_op1 ?_
      refine o_var rfl ?_
      refine z_op1 rfl fun r33 => ?_
      refine o_exp rfl ?_
      refine x_op2 ?_
      refine o_var rfl ?_
      refine o_exp rfl ?_
      refine x_int ?_
      refine z_op2 rfl rfl fun r34 => ?_
      refine z_op2 rfl rfl fun r35 => ?_
      exact qf_ret rfl rfl
    · refine b_sti ?_
      refine x_var rfl ?_
      refine s_sti rfl ?_
      refine x_int ?_
      refine z_st (g := fun l36 => [some (.lv (.l false) l36), some (.val many), some (.val r3), some (.val s19.2)]) rfl (fun _ => rfl) fun l36 => ?_
      refine b_asg ?_
      refine x_op2 ?_
      refine o_var rfl ?_
      refine o_exp rfl ?_
      refine x_int ?_
      refine z_op2 rfl rfl fun r37 => ?_
      refine s_asg (nv1 := [some (.lv (.l false) l36), some (.val many), some (.val r3), some (.val r37)]) rfl ?_
      refine b_sti ?_
      refine x_op2 ?_
      refine o_var rfl ?_
      refine o_exp rfl ?_
      refine x_op2 ?_
      refine o_var rfl ?_
      refine o_exp rfl ?_
      refine x_int ?_
      refine z_op2 rfl rfl fun r38 => ?_
      refine z_op2 rfl rfl fun r39 => ?_
      refine s_sti rfl ?_
      refine x_int ?_
      refine z_st (g := fun l40 => [some (.lv (.l false) l40), some (.val many), some (.val r3), some (.val r37)]) rfl (fun _ => rfl) fun l40 => ?_
      refine b_ret ?_
      refine x_op2 ?_
      refine o_exp rfl ?_
      refine x_op1 ?_
      refine o_var rfl ?_
      refine z_op1 rfl fun r41 => ?_
      refine o_exp rfl ?_
      refine x_op2 ?_
      refine o_var rfl ?_
      refine o_exp rfl ?_
      refine x_int ?_
      refine z_op2 rfl rfl fun r42 => ?_
      refine z_op2 rfl rfl fun r43 => ?_
      exact qf_ret rfl rfl
  · refine b_asg ?_
    refine x_op2 ?_
    refine o_var rfl ?_
    refine o_exp rfl ?_
    refine x_int ?_
    refine z_op2 rfl rfl fun r44 => ?_
    refine s_asg (nv1 := [some (.lv (.l false) tape), some (.val many), none, some (.val r44)]) rfl ?_
    refine b_sti ?_
    refine x_op2 ?_
    refine o_var rfl ?_
    refine o_exp rfl ?_
    refine x_op2 ?_
    refine o_var rfl ?_
    refine o_exp rfl ?_
    refine x_int ?_
    refine z_op2 rfl rfl fun r45 => ?_
    refine z_op2 rfl rfl fun r46 => ?_
    refine s_sti rfl ?_
    refine x_int ?_
    refine z_st (g := fun l47 => [some (.lv (.l false) l47), some (.val many), none, some (.val r44)]) rfl (fun _ => rfl) fun l47 => ?_
    refine b_ret ?_
    refine x_op2 ?_
    refine o_exp rfl ?_
    refine x_op1 ?_
    refine o_var rfl ?_
    refine z_op1 rfl fun r48 => ?_
    refine o_exp rfl ?_
    refine x_op2 ?_
    refine o_var rfl ?_
    refine o_exp rfl ?_
    refine x_int ?_
    refine z_op2 rfl rfl fun r49 => ?_
    refine z_op2 rfl rfl fun r50 => ?_
    exact qf_ret rfl rfl
set_option maxHeartbeats 0 in
theorem q9 : ∀ (fuel n : Nat), 0 + fuel ≤ n → ∀ (actual : D) (expected : D), FqP (f_law_same fuel actual expected) (calls dfs (shsOf tt) n 9 [.val actual, .val expected]) (fun c => R.val c) [.val actual, .val expected] := by
  intro fuel
  induction fuel with
  | zero => intro n hn actual expected; exact ⟨trivial⟩
  | succ fuel ih =>
    intro n hn actual expected
    obtain ⟨n, rfl⟩ : ∃ k, n = k + 1 := ⟨n - 1, by omega⟩
    rw [calls_succ (d := d9) rfl]
    refine fq_pure (ds := [actual, expected]) rfl ?_
    change L _ _ (evB _ _ d9.body [some (.val actual), some (.val expected), none]) _
    rw [f_law_same]
    refine b_ife ?_
    refine x_op1 ?_
    refine o_var rfl ?_
    refine z_op1 rfl fun r1 => ?_
    refine z_ife ?_ ?_
    · refine b_ret ?_
      refine x_op1 ?_
      refine o_var rfl ?_
      refine z_op1 rfl fun r2 => ?_
      exact qf_ret rfl trivial
    · refine b_ife ?_
      refine x_op1 ?_
      refine o_exp rfl ?_
      refine x_op1 ?_
      refine o_var rfl ?_
      refine z_op1 rfl fun r3 => ?_
      refine z_op1 rfl fun r4 => ?_
      refine z_ife ?_ ?_
      · refine b_ife ?_
        refine x_or ?_
        refine x_not ?_
        refine x_op1 ?_
        refine o_exp rfl ?_
        refine x_op1 ?_
        refine o_var rfl ?_
        refine z_op1 rfl fun r5 => ?_
        refine z_op1 rfl fun r6 => ?_
        refine z_not fun r7 => ?_
        refine z_or ?_ fun r11 => ?_
        · refine e_end ?_
          refine x_op2 ?_
          refine o_exp rfl ?_
          refine x_op1 ?_
          refine o_var rfl ?_
          refine z_op1 rfl fun r8 => ?_
          refine o_exp rfl ?_
          refine x_op1 ?_
          refine o_var rfl ?_
          refine z_op1 rfl fun r9 => ?_
          refine z_op2 rfl rfl fun r10 => ?_
          exact qe_ok rfl rfl
        refine z_ife ?_ ?_
        · refine b_ret ?_
          refine x_bl ?_
          exact qf_ret rfl trivial
        · refine b_kill (nv1 := [some (.val actual), some (.val expected), none]) rfl ?_
          refine b_for ?_
          refine g_cons rfl ?_
          refine x_op1 ?_
          refine o_var rfl ?_
          refine z_op1 rfl fun r12 => ?_
          refine g_nil ?_
          refine z_for (g := fun s13 => [some (.val actual), some (.val expected), none]) (h := fun c => R.val c) (O := fun _ _ => True) rfl rfl (fun d15 s13 => ?_) (fun s14 => ?_) fun c nv o => ?_
          · refine a_nm (nv1 := [some (.val actual), some (.val expected), some (.val d15)]) rfl ?_
            refine b_ife ?_
            refine x_not ?_
            refine x_op1 ?_
            refine o_exp rfl ?_
            refine x_call ?_
            refine g_cons rfl ?_
            refine x_op2 ?_
            refine o_var rfl ?_
            refine o_var rfl ?_
            refine z_op2 rfl rfl fun r17 => ?_
            refine g_cons rfl ?_
            refine x_op2 ?_
            refine o_var rfl ?_
            refine o_var rfl ?_
            refine z_op2 rfl rfl fun r18 => ?_
            refine g_nil ?_
            refine z_callP (ds := [r17, r18]) (ih _ (by omega) r17 r18) rfl trivial fun r19 => ?_
            refine z_op1 rfl fun r20 => ?_
            refine z_not fun r21 => ?_
            refine z_ife ?_ ?_
            · refine b_ret ?_
              refine x_bl ?_
              exact ql_ret rfl trivial
            · refine b_kill (nv1 := [some (.val actual), some (.val expected), none]) rfl ?_
              refine b_nil ?_
              exact ql_nx rfl
          · refine b_ret ?_
            refine x_bl ?_
            exact qf_ret rfl trivial
          exact qf_ret rfl o
      · refine b_ife ?_
        refine x_op1 ?_
        refine o_exp rfl ?_
        refine x_op1 ?_
        refine o_var rfl ?_
        refine z_op1 rfl fun r22 => ?_
        refine z_op1 rfl fun r23 => ?_
        refine z_ife ?_ ?_
        · refine b_ret ?_
          refine x_and ?_
          refine x_op1 ?_
          refine o_var rfl ?_
          refine z_op1 rfl fun r24 => ?_
          refine z_and ?_ fun r26 => ?_
          · refine e_end ?_
            refine x_op2 ?_
            refine o_var rfl ?_
            refine o_var rfl ?_
            refine z_op2 rfl rfl fun r25 => ?_
            exact qe_ok rfl rfl
          exact qf_ret rfl trivial
        · refine b_ife ?_
          refine x_op1 ?_
          refine o_exp rfl ?_
          refine x_op1 ?_
          refine o_var rfl ?_
          refine z_op1 rfl fun r27 => ?_
          refine z_op1 rfl fun r28 => ?_
          refine z_ife ?_ ?_
          · refine b_ret ?_
            refine x_and ?_
            refine x_op1 ?_
            refine o_var rfl ?_
            refine z_op1 rfl fun r29 => ?_
            refine z_and ?_ fun r31 => ?_
            · refine e_end ?_
              refine x_op2 ?_
              refine o_var rfl ?_
              refine o_var rfl ?_
              refine z_op2 rfl rfl fun r30 => ?_
              exact qe_ok rfl rfl
            exact qf_ret rfl trivial
          · refine b_ret ?_
            refine x_and ?_
            refine x_op1 ?_
            refine o_var rfl ?_
            refine z_op1 rfl fun r32 => ?_
            refine z_and ?_ fun r37 => ?_
            · refine e_end ?_
              refine x_and ?_
              refine x_not ?_
              refine x_op1 ?_
              refine o_var rfl ?_
              refine z_op1 rfl fun r33 => ?_
              refine z_not fun r34 => ?_
              refine z_and ?_ fun r36 => ?_
              · refine e_end ?_
                refine x_op2 ?_
                refine o_var rfl ?_
                refine o_var rfl ?_
                refine z_op2 rfl rfl fun r35 => ?_
                exact qe_ok rfl rfl
              exact qe_ok rfl rfl
            exact qf_ret rfl trivial
set_option maxHeartbeats 0 in
theorem q10 : ∀ (n : Nat), 2 ≤ n → ∀ (tape : List D), FqL (f_law_menu tape) (calls dfs (shsOf tt) n 10 [.lv (.l false) tape]) (fun c => R.own c.1) (fun c => [.lv (.l false) c.2]) := by
  intro n hn tape
  obtain ⟨n, rfl⟩ : ∃ k, n = k + 1 := ⟨n - 1, by omega⟩
  rw [calls_succ (d := d10) rfl]
  refine fq_lent (X := fun _ => True) rfl ?_
  change L _ _ (evB _ _ d10.body [some (.lv (.l false) tape), none, none, none, none, none, none]) _
  unfold f_law_menu
  refine b_asg ?_
  refine x_str ?_
  refine s_asg (nv1 := [some (.lv (.l false) tape), some (.val (D.str " !\"#$&'()*+,-./0123456789:;<=>?@ABCDEFGHIJKLMNOPQRSTUVWXYZ[\\]^_`abcdefghijklmnopqrstuvwxyz{|}~")), none, none, none, none, none]) rfl ?_
  refine b_ife ?_
  refine x_op2 ?_
  refine o_exp rfl ?_
  refine x_call ?_
  refine g_brw rfl ?_
  refine g_cons rfl ?_
  refine x_int ?_
  refine g_nil ?_
  refine z_callL (g := fun p1 => [some (.lv (.l false) p1.2), some (.val (D.str " !\"#$&'()*+,-./0123456789:;<=>?@ABCDEFGHIJKLMNOPQRSTUVWXYZ[\\]^_`abcdefghijklmnopqrstuvwxyz{|}~")), none, none, none, none, none]) (q8 _ (by omega) tape (D.int 8)) rfl rfl rfl (fun _ => rfl) fun p1 => ?_
  refine o_exp rfl ?_
  refine x_int ?_
  refine z_op2 rfl rfl fun r2 => ?_
  refine z_ife ?_ ?_
  · refine b_ret ?_
    refine x_slc ?_
    refine o_exp rfl ?_
    refine x_lst ?_
    refine g_cons rfl ?_
    refine x_str ?_
    refine g_cons rfl ?_
    refine x_str ?_
    refine g_cons rfl ?_
    refine x_str ?_
    refine g_cons rfl ?_
    refine x_str ?_
    refine g_cons rfl ?_
    refine x_str ?_
    refine g_cons rfl ?_
    refine x_str ?_
    refine g_nil ?_
    refine z_lst (ds := [(D.str "keep"), (D.str "remove"), (D.str "insert"), (D.str "kept"), (D.str "inserted"), (D.str "")]) rfl rfl ?_
    refine s_loN ?_
    refine x_op2 ?_
    refine o_exp rfl ?_
    refine x_int ?_
    refine o_exp rfl ?_
    refine x_call ?_
    refine g_brw rfl ?_
    refine g_cons rfl ?_
    refine x_int ?_
    refine g_nil ?_
    refine z_callL (g := fun p3 => [some (.lv (.l false) p3.2), some (.val (D.str " !\"#$&'()*+,-./0123456789:;<=>?@ABCDEFGHIJKLMNOPQRSTUVWXYZ[\\]^_`abcdefghijklmnopqrstuvwxyz{|}~")), none, none, none, none, none]) (q8 _ (by omega) p1.2 (D.int 4)) rfl rfl rfl (fun _ => rfl) fun p3 => ?_
    refine z_op2 rfl rfl fun r4 => ?_
    refine s_hiE rfl fun i5 => ?_
    refine z_slco rfl fun r6 => ?_
    exact qf_ret rfl rfl
  · refine b_asg ?_
    refine x_op2 ?_
    refine o_exp rfl ?_
    refine x_lst ?_
    refine g_cons rfl ?_
    refine x_str ?_
    refine g_cons rfl ?_
    refine x_str ?_
    refine g_cons rfl ?_
    refine x_str ?_
    refine g_nil ?_
    refine z_lst (ds := [(D.str ""), (D.str ""), (D.str "section 12, part (b")]) rfl rfl ?_
    refine o_exp rfl ?_
    refine x_call ?_
    refine g_brw rfl ?_
    refine g_cons rfl ?_
    refine x_int ?_
    refine g_nil ?_
    refine z_callL (g := fun p7 => [some (.lv (.l false) p7.2), some (.val (D.str " !\"#$&'()*+,-./0123456789:;<=>?@ABCDEFGHIJKLMNOPQRSTUVWXYZ[\\]^_`abcdefghijklmnopqrstuvwxyz{|}~")), none, none, none, none, none]) (q8 _ (by omega) p1.2 (D.int 3)) rfl rfl rfl (fun _ => rfl) fun p7 => ?_
    refine z_op2 rfl rfl fun r8 => ?_
    refine s_asg (nv1 := [some (.lv (.l false) p7.2), some (.val (D.str " !\"#$&'()*+,-./0123456789:;<=>?@ABCDEFGHIJKLMNOPQRSTUVWXYZ[\\]^_`abcdefghijklmnopqrstuvwxyz{|}~")), some (.val r8), none, none, none, none]) rfl ?_
    refine b_asg ?_
    refine x_lst ?_
    refine g_nil ?_
    refine z_lst (ds := []) rfl rfl ?_
    refine s_asg (nv1 := [some (.lv (.l false) p7.2), some (.val (D.str " !\"#$&'()*+,-./0123456789:;<=>?@ABCDEFGHIJKLMNOPQRSTUVWXYZ[\\]^_`abcdefghijklmnopqrstuvwxyz{|}~")), some (.val r8), some (.lv (.l true) []), none, none, none]) rfl ?_
    refine b_kill (nv1 := [some (.lv (.l false) p7.2), some (.val (D.str " !\"#$&'()*+,-./0123456789:;<=>?@ABCDEFGHIJKLMNOPQRSTUVWXYZ[\\]^_`abcdefghijklmnopqrstuvwxyz{|}~")), some (.val r8), some (.lv (.l true) []), none, none, none]) rfl ?_
    refine b_for ?_
    refine g_cons rfl ?_
    refine x_op2 ?_
    refine o_exp rfl ?_
    refine x_lst ?_
    refine g_cons rfl ?_
    refine x_int ?_
    refine g_cons rfl ?_
    refine x_int ?_
    refine g_cons rfl ?_
    refine x_int ?_
    refine g_cons rfl ?_
    refine x_int ?_
    refine g_cons rfl ?_
    refine x_int ?_
    refine g_cons rfl ?_
    refine x_int ?_
    refine g_cons rfl ?_
    refine x_int ?_
    refine g_cons rfl ?_
    refine x_int ?_
    refine g_nil ?_
    refine z_lst (ds := [(D.int 2), (D.int 2), (D.int 3), (D.int 3), (D.int 4), (D.int 5), (D.int 5), (D.int 12)]) rfl rfl ?_
    refine o_exp rfl ?_
    refine x_call ?_
    refine g_brw rfl ?_
    refine g_cons rfl ?_
    refine x_int ?_
    refine g_nil ?_
    refine z_callL (g := fun p9 => [some (.lv (.l false) p9.2), some (.val (D.str " !\"#$&'()*+,-./0123456789:;<=>?@ABCDEFGHIJKLMNOPQRSTUVWXYZ[\\]^_`abcdefghijklmnopqrstuvwxyz{|}~")), some (.val r8), some (.lv (.l true) []), none, none, none]) (q8 _ (by omega) p7.2 (D.int 8)) rfl rfl rfl (fun _ => rfl) fun p9 => ?_
    refine z_op2 rfl rfl fun r10 => ?_
    refine g_nil ?_
    refine z_fold (g := fun s11 => [some (.lv (.l false) s11.1), some (.val (D.str " !\"#$&'()*+,-./0123456789:;<=>?@ABCDEFGHIJKLMNOPQRSTUVWXYZ[\\]^_`abcdefghijklmnopqrstuvwxyz{|}~")), some (.val r8), some (.lv (.l true) s11.2), none, none, none]) rfl rfl (fun d13 s11 => ?_) fun s12 => ?_
    · refine a_nm (nv1 := [some (.lv (.l false) s11.1), some (.val (D.str " !\"#$&'()*+,-./0123456789:;<=>?@ABCDEFGHIJKLMNOPQRSTUVWXYZ[\\]^_`abcdefghijklmnopqrstuvwxyz{|}~")), some (.val r8), some (.lv (.l true) s11.2), some (.val d13), none, none]) rfl ?_
      refine b_asg ?_
      refine x_op2 ?_
      refine o_var rfl ?_
      refine o_exp rfl ?_
      refine x_op2 ?_
      refine o_var rfl ?_
      refine o_exp rfl ?_
      refine x_call ?_
      refine g_brw rfl ?_
      refine g_cons rfl ?_
      refine x_op1 ?_
      refine o_var rfl ?_
      refine z_op1 rfl fun r15 => ?_
      refine g_nil ?_
      refine z_callL (g := fun p16 => [some (.lv (.l false) p16.2), some (.val (D.str " !\"#$&'()*+,-./0123456789:;<=>?@ABCDEFGHIJKLMNOPQRSTUVWXYZ[\\]^_`abcdefghijklmnopqrstuvwxyz{|}~")), some (.val r8), some (.lv (.l true) s11.2), some (.val d13), none, none]) (q8 _ (by omega) s11.1 r15) rfl rfl rfl (fun _ => rfl) fun p16 => ?_
      refine z_op2 rfl rfl fun r17 => ?_
      refine z_op2 rfl rfl fun r18 => ?_
      refine s_asg (nv1 := [some (.lv (.l false) p16.2), some (.val (D.str " !\"#$&'()*+,-./0123456789:;<=>?@ABCDEFGHIJKLMNOPQRSTUVWXYZ[\\]^_`abcdefghijklmnopqrstuvwxyz{|}~")), some (.val r8), some (.lv (.l true) s11.2), some (.val d13), some (.val r18), none]) rfl ?_
      refine b_ife ?_
      refine x_op2 ?_
      refine o_var rfl ?_
      refine o_exp rfl ?_
      refine x_str ?_
      refine z_op2 rfl rfl fun r19 => ?_
      refine z_ifj (g := fun s31 => [some (.lv (.l false) s31.1), some (.val (D.str " !\"#$&'()*+,-./0123456789:;<=>?@ABCDEFGHIJKLMNOPQRSTUVWXYZ[\\]^_`abcdefghijklmnopqrstuvwxyz{|}~")), some (.val r8), some (.lv (.l true) s11.2), none, some (.val s31.2), none]) ?_ ?_ fun s31 => ?_
      · refine b_kill (nv1 := [some (.lv (.l false) p16.2), some (.val (D.str " !\"#$&'()*+,-./0123456789:;<=>?@ABCDEFGHIJKLMNOPQRSTUVWXYZ[\\]^_`abcdefghijklmnopqrstuvwxyz{|}~")), some (.val r8), some (.lv (.l true) s11.2), none, some (.val r18), none]) rfl ?_
        refine b_for ?_
        refine g_cons rfl ?_
        refine x_op2 ?_
        refine o_exp rfl ?_
        refine x_lst ?_
        refine g_cons rfl ?_
        refine x_int ?_
        refine g_cons rfl ?_
        refine x_int ?_
        refine g_cons rfl ?_
        refine x_int ?_
        refine g_cons rfl ?_
        refine x_int ?_
        refine g_cons rfl ?_
        refine x_int ?_
        refine g_cons rfl ?_
        refine x_call ?_
        refine g_brw rfl ?_
        refine g_cons rfl ?_
        refine x_int ?_
        refine g_nil ?_
        refine z_callL (g := fun p20 => [some (.lv (.l false) p20.2), some (.val (D.str " !\"#$&'()*+,-./0123456789:;<=>?@ABCDEFGHIJKLMNOPQRSTUVWXYZ[\\]^_`abcdefghijklmnopqrstuvwxyz{|}~")), some (.val r8), some (.lv (.l true) s11.2), none, some (.val r18), none]) (q8 _ (by omega) p16.2 (D.int 20)) rfl rfl rfl (fun _ => rfl) fun p20 => ?_
        refine g_nil ?_
        refine z_lst (ds := [(D.int 0), (D.int 0), (D.int 0), (D.int 1), (D.int 19), p20.1]) rfl rfl ?_
        refine o_exp rfl ?_
        refine x_call ?_
        refine g_brw rfl ?_
        refine g_cons rfl ?_
        refine x_int ?_
        refine g_nil ?_
        refine z_callL (g := fun p21 => [some (.lv (.l false) p21.2), some (.val (D.str " !\"#$&'()*+,-./0123456789:;<=>?@ABCDEFGHIJKLMNOPQRSTUVWXYZ[\\]^_`abcdefghijklmnopqrstuvwxyz{|}~")), some (.val r8), some (.lv (.l true) s11.2), none, some (.val r18), none]) (q8 _ (by omega) p20.2 (D.int 6)) rfl rfl rfl (fun _ => rfl) fun p21 => ?_
        refine z_op2 rfl rfl fun r22 => ?_
        refine g_nil ?_
        refine z_fold (g := fun s23 => [some (.lv (.l false) s23.1), some (.val (D.str " !\"#$&'()*+,-./0123456789:;<=>?@ABCDEFGHIJKLMNOPQRSTUVWXYZ[\\]^_`abcdefghijklmnopqrstuvwxyz{|}~")), some (.val r8), some (.lv (.l true) s11.2), none, some (.val s23.2), none]) rfl rfl (fun d25 s23 => ?_) fun s24 => ?_
        · refine a_nm (nv1 := [some (.lv (.l false) s23.1), some (.val (D.str " !\"#$&'()*+,-./0123456789:;<=>?@ABCDEFGHIJKLMNOPQRSTUVWXYZ[\\]^_`abcdefghijklmnopqrstuvwxyz{|}~")), some (.val r8), some (.lv (.l true) s11.2), none, some (.val s23.2), some (.val d25)]) rfl ?_
          refine b_asg ?_
          refine x_op2 ?_
          refine o_var rfl ?_
          refine o_exp rfl ?_
          refine x_op2 ?_
          refine o_var rfl ?_
          refine o_exp rfl ?_
          refine x_call ?_
          refine g_brw rfl ?_
          refine g_cons rfl ?_
          refine x_op1 ?_
          refine o_var rfl ?_
          refine z_op1 rfl fun r27 => ?_
          refine g_nil ?_
          refine z_callL (g := fun p28 => [some (.lv (.l false) p28.2), some (.val (D.str " !\"#$&'()*+,-./0123456789:;<=>?@ABCDEFGHIJKLMNOPQRSTUVWXYZ[\\]^_`abcdefghijklmnopqrstuvwxyz{|}~")), some (.val r8), some (.lv (.l true) s11.2), none, some (.val s23.2), some (.val d25)]) (q8 _ (by omega) s23.1 r27) rfl rfl rfl (fun _ => rfl) fun p28 => ?_
          refine z_op2 rfl rfl fun r29 => ?_
          refine z_op2 rfl rfl fun r30 => ?_
          refine s_asg (nv1 := [some (.lv (.l false) p28.2), some (.val (D.str " !\"#$&'()*+,-./0123456789:;<=>?@ABCDEFGHIJKLMNOPQRSTUVWXYZ[\\]^_`abcdefghijklmnopqrstuvwxyz{|}~")), some (.val r8), some (.lv (.l true) s11.2), none, some (.val r30), some (.val d25)]) rfl ?_
          refine b_kill (nv1 := [some (.lv (.l false) p28.2), some (.val (D.str " !\"#$&'()*+,-./0123456789:;<=>?@ABCDEFGHIJKLMNOPQRSTUVWXYZ[\\]^_`abcdefghijklmnopqrstuvwxyz{|}~")), some (.val r8), some (.lv (.l true) s11.2), none, some (.val r30), none]) rfl ?_
          refine b_nil ?_
          exact qn_nx rfl
        refine b_kill (nv1 := [some (.lv (.l false) s24.1), some (.val (D.str " !\"#$&'()*+,-./0123456789:;<=>?@ABCDEFGHIJKLMNOPQRSTUVWXYZ[\\]^_`abcdefghijklmnopqrstuvwxyz{|}~")), some (.val r8), some (.lv (.l true) s11.2), none, some (.val s24.2), none]) rfl ?_
        refine b_nil ?_
        exact qj_ok rfl
      · refine b_kill (nv1 := [some (.lv (.l false) p16.2), some (.val (D.str " !\"#$&'()*+,-./0123456789:;<=>?@ABCDEFGHIJKLMNOPQRSTUVWXYZ[\\]^_`abcdefghijklmnopqrstuvwxyz{|}~")), some (.val r8), some (.lv (.l true) s11.2), none, some (.val r18), none]) rfl ?_
        refine b_nil ?_
        exact qj_ok rfl
      refine b_expr ?_
      refine x_mth rfl ?_
      refine g_cons rfl ?_
      refine x_var rfl ?_
      refine g_nil ?_
      refine z_app (g := fun l32 => [some (.lv (.l false) s31.1), some (.val (D.str " !\"#$&'()*+,-./0123456789:;<=>?@ABCDEFGHIJKLMNOPQRSTUVWXYZ[\\]^_`abcdefghijklmnopqrstuvwxyz{|}~")), some (.val r8), some (.lv (.l true) l32), none, some (.val s31.2), none]) rfl (fun _ => rfl) fun l32 => ?_
      refine b_kill (nv1 := [some (.lv (.l false) s31.1), some (.val (D.str " !\"#$&'()*+,-./0123456789:;<=>?@ABCDEFGHIJKLMNOPQRSTUVWXYZ[\\]^_`abcdefghijklmnopqrstuvwxyz{|}~")), some (.val r8), some (.lv (.l true) l32), none, none, none]) rfl ?_
      refine b_nil ?_
      exact qn_nx rfl
    refine b_ife ?_
    refine x_op2 ?_
    refine o_exp rfl ?_
    refine x_call ?_
    refine g_brw rfl ?_
    refine g_cons rfl ?_
    refine x_int ?_
    refine g_nil ?_
    refine z_callL (g := fun p33 => [some (.lv (.l false) p33.2), some (.val (D.str " !\"#$&'()*+,-./0123456789:;<=>?@ABCDEFGHIJKLMNOPQRSTUVWXYZ[\\]^_`abcdefghijklmnopqrstuvwxyz{|}~")), some (.val r8), some (.lv (.l true) s12.2), none, none, none]) (q8 _ (by omega) s12.1 (D.int 3)) rfl rfl rfl (fun _ => rfl) fun p33 => ?_
    refine o_exp rfl ?_
    refine x_int ?_
    refine z_op2 rfl rfl fun r34 => ?_
    refine z_ifj (g := fun s36 => [some (.lv (.l false) p33.2), none, none, some (.lv (.l true) s36), none, none, none]) ?_ ?_ fun s36 => ?_
    · refine b_sti ?_
      refine x_str ?_
      refine s_sti rfl ?_
      refine x_int ?_
      refine z_st (g := fun l35 => [some (.lv (.l false) p33.2), some (.val (D.str " !\"#$&'()*+,-./0123456789:;<=>?@ABCDEFGHIJKLMNOPQRSTUVWXYZ[\\]^_`abcdefghijklmnopqrstuvwxyz{|}~")), some (.val r8), some (.lv (.l true) l35), none, none, none]) rfl (fun _ => rfl) fun l35 => ?_
      refine b_kill (nv1 := [some (.lv (.l false) p33.2), none, none, some (.lv (.l true) l35), none, none, none]) rfl ?_
      refine b_nil ?_
      exact qj_ok rfl
    · refine b_kill (nv1 := [some (.lv (.l false) p33.2), none, none, some (.lv (.l true) s12.2), none, none, none]) rfl ?_
      refine b_nil ?_
      exact qj_ok rfl
    refine b_ret ?_
    refine x_movO (nv1 := [some (.lv (.l false) p33.2), none, none, none, none, none, none]) rfl rfl ?_
    exact qf_ret rfl rfl
set_option maxHeartbeats 0 in
theorem q11 : ∀ (n : Nat), 2 ≤ n → ∀ (tape : List D) (menu : D) (most : D), FqL (f_law_lines tape menu most) (calls dfs (shsOf tt) n 11 [.lv (.l false) tape, .val menu, .val most]) (fun c => R.val c.1) (fun c => [.lv (.l false) c.2, .val menu, .val most]) := by
  intro n hn tape menu most
  obtain ⟨n, rfl⟩ : ∃ k, n = k + 1 := ⟨n - 1, by omega⟩
  rw [calls_succ (d := d11) rfl]
  refine fq_lent (X := fun _ => True) rfl ?_
  change L _ _ (evB _ _ d11.body [some (.lv (.l false) tape), some (.val menu), some (.val most), none]) _
  unfold f_law_lines
  refine b_ret ?_
  refine x_op1 ?_
  refine o_exp rfl ?_
  refine x_comp ?_
  refine g_cons rfl ?_
  refine x_call ?_
  refine g_brw rfl ?_
  refine g_cons rfl ?_
  refine x_op2 ?_
  refine o_var rfl ?_
  refine o_exp rfl ?_
  refine x_int ?_
  refine z_op2 rfl rfl fun r1 => ?_
  refine g_nil ?_
  refine z_callL (g := fun p2 => [some (.lv (.l false) p2.2), some (.val menu), some (.val most), none]) (q8 _ (by omega) tape r1) rfl rfl rfl (fun _ => rfl) fun p2 => ?_
  refine g_nil ?_
  refine z_mapS (g := fun s5 => [some (.lv (.l false) s5), some (.val menu), some (.val most), none]) (g2 := fun s5 => [some (.lv (.l false) s5), some (.val menu), some (.val most), none]) rfl rfl (fun _ => rfl) (fun d3 s5 => ?_) fun p9 => ?_
  · refine t_go ?_
    refine a_nm (nv1 := [some (.lv (.l false) s5), some (.val menu), some (.val most), some (.val d3)]) rfl ?_
    refine c_nil ?_
    refine t_true ?_
    refine x_op2 ?_
    refine o_var rfl ?_
    refine o_exp rfl ?_
    refine x_call ?_
    refine g_brw rfl ?_
    refine g_cons rfl ?_
    refine x_op1 ?_
    refine o_var rfl ?_
    refine z_op1 rfl fun r6 => ?_
    refine g_nil ?_
    refine z_callL (g := fun p7 => [some (.lv (.l false) p7.2), some (.val menu), some (.val most), some (.val d3)]) (q8 _ (by omega) s5 r6) rfl rfl rfl (fun _ => rfl) fun p7 => ?_
    refine z_op2 rfl rfl fun r8 => ?_
    exact qt rfl
  refine z_op1 rfl fun r10 => ?_
  exact qf_ret rfl rfl
set_option maxHeartbeats 0 in
theorem q12 : ∀ (n : Nat), 3 ≤ n → ∀ (tape : List D) (menu : D), FqL (f_law_row tape menu) (calls dfs (shsOf tt) n 12 [.lv (.l false) tape, .val menu]) (fun c => R.val c.1) (fun c => [.lv (.l false) c.2, .val menu]) := by
  intro n hn tape menu
  obtain ⟨n, rfl⟩ : ∃ k, n = k + 1 := ⟨n - 1, by omega⟩
  rw [calls_succ (d := d12) rfl]
  refine fq_lent (X := fun _ => True) rfl ?_
  change L _ _ (evB _ _ d12.body [some (.lv (.l false) tape), some (.val menu)]) _
  unfold f_law_row
  refine b_ret ?_
  refine x_call ?_
  refine g_brw rfl ?_
  refine g_cons rfl ?_
  refine x_var rfl ?_
  refine g_cons rfl ?_
  refine x_op2 ?_
  refine o_exp rfl ?_
  refine x_lst ?_
  refine g_cons rfl ?_
  refine x_int ?_
  refine g_cons rfl ?_
  refine x_int ?_
  refine g_cons rfl ?_
  refine x_int ?_
  refine g_cons rfl ?_
  refine x_int ?_
  refine g_nil ?_
  refine z_lst (ds := [(D.int 4), (D.int 12), (D.int 12), (D.int 36)]) rfl rfl ?_
  refine o_exp rfl ?_
  refine x_call ?_
  refine g_brw rfl ?_
  refine g_cons rfl ?_
  refine x_int ?_
  refine g_nil ?_
  refine z_callL (g := fun p1 => [some (.lv (.l false) p1.2), some (.val menu)]) (q8 _ (by omega) tape (D.int 4)) rfl rfl rfl (fun _ => rfl) fun p1 => ?_
  refine z_op2 rfl rfl fun r2 => ?_
  refine g_nil ?_
  refine z_callL (g := fun p3 => [some (.lv (.l false) p3.2), some (.val menu)]) (q11 _ (by omega) p1.2 menu r2) rfl rfl rfl (fun _ => rfl) fun p3 => ?_
  exact qf_ret rfl rfl
set_option maxHeartbeats 0 in
theorem q13 : ∀ (n : Nat), 1 ≤ n → ∀ (edit : D), FqP (f_law_end edit) (calls dfs (shsOf tt) n 13 [.val edit]) (fun c => R.val c) [.val edit] := by
  intro n hn edit
  obtain ⟨n, rfl⟩ : ∃ k, n = k + 1 := ⟨n - 1, by omega⟩
  rw [calls_succ (d := d13) rfl]
  refine fq_pure (ds := [edit]) rfl ?_
  change L _ _ (evB _ _ d13.body [some (.val edit)]) _
  unfold f_law_end
  refine b_ret ?_
  refine x_op2 ?_
  refine o_exp rfl ?_
  refine x_op2 ?_
  refine o_var rfl ?_
  refine o_exp rfl ?_
  refine x_int ?_
  refine z_op2 rfl rfl fun r1 => ?_
  refine o_exp rfl ?_
  refine x_op1 ?_
  refine o_exp rfl ?_
  refine x_op2 ?_
  refine o_var rfl ?_
  refine o_exp rfl ?_
  refine x_int ?_
  refine z_op2 rfl rfl fun r2 => ?_
  refine z_op1 rfl fun r3 => ?_
  refine z_op2 rfl rfl fun r4 => ?_
  exact qf_ret rfl trivial
set_option maxHeartbeats 0 in
theorem q14 : ∀ (n : Nat), 2 ≤ n → ∀ (edits : D), FqP (f_law_ordered edits) (calls dfs (shsOf tt) n 14 [.val edits]) (fun c => R.val c) [.val edits] := by
  intro n hn edits
  obtain ⟨n, rfl⟩ : ∃ k, n = k + 1 := ⟨n - 1, by omega⟩
  rw [calls_succ (d := d14) rfl]
  refine fq_pure (ds := [edits]) rfl ?_
  change L _ _ (evB _ _ d14.body [some (.val edits), none]) _
  unfold f_law_ordered
  refine b_kill (nv1 := [some (.val edits), none]) rfl ?_
  refine b_for ?_
  refine g_cons rfl ?_
  refine x_int ?_
  refine g_cons rfl ?_
  refine x_op1 ?_
  refine o_var rfl ?_
  refine z_op1 rfl fun r1 => ?_
  refine g_nil ?_
  refine z_for (g := fun s2 => [some (.val edits), none]) (h := fun c => R.val c) (O := fun _ _ => True) rfl rfl (fun d4 s2 => ?_) (fun s3 => ?_) fun c nv o => ?_
  · refine a_nm (nv1 := [some (.val edits), some (.val d4)]) rfl ?_
    refine b_ife ?_
    refine x_op2 ?_
    refine o_exp rfl ?_
    refine x_call ?_
    refine g_cons rfl ?_
    refine x_op2 ?_
    refine o_var rfl ?_
    refine o_exp rfl ?_
    refine x_op2 ?_
    refine o_var rfl ?_
    refine o_exp rfl ?_
    refine x_int ?_
    refine z_op2 rfl rfl fun r6 => ?_
    refine z_op2 rfl rfl fun r7 => ?_
    refine g_nil ?_
    refine z_callP (ds := [r7]) (q13 _ (by omega) r7) rfl trivial fun r8 => ?_
    refine o_exp rfl ?_
    refine x_op2 ?_
    refine o_exp rfl ?_
    refine x_op2 ?_
    refine o_var rfl ?_
    refine o_var rfl ?_
    refine z_op2 rfl rfl fun r9 => ?_
    refine o_exp rfl ?_
    refine x_int ?_
    refine z_op2 rfl rfl fun r10 => ?_
    refine z_op2 rfl rfl fun r11 => ?_
    refine z_ife ?_ ?_
    · refine b_ret ?_
      refine x_bl ?_
      exact ql_ret rfl trivial
    · refine b_kill (nv1 := [some (.val edits), none]) rfl ?_
      refine b_nil ?_
      exact ql_nx rfl
  · refine b_ret ?_
    refine x_bl ?_
    exact qf_ret rfl trivial
  exact qf_ret rfl o
set_option maxHeartbeats 0 in
theorem q15 : ∀ (n : Nat), 2 ≤ n → ∀ (lines : D) (edit : D), FqP (f_law_fits lines edit) (calls dfs (shsOf tt) n 15 [.val lines, .val edit]) (fun c => R.val c) [.val lines, .val edit] := by
  intro n hn lines edit
  obtain ⟨n, rfl⟩ : ∃ k, n = k + 1 := ⟨n - 1, by omega⟩
  rw [calls_succ (d := d15) rfl]
  refine fq_pure (ds := [lines, edit]) rfl ?_
  change L _ _ (evB _ _ d15.body [some (.val lines), some (.val edit)]) _
  unfold f_law_fits
  refine b_ret ?_
  refine x_and ?_
  refine x_op2 ?_
  refine o_exp rfl ?_
  refine x_call ?_
  refine g_cons rfl ?_
  refine x_var rfl ?_
  refine g_nil ?_
  refine z_callP (ds := [edit]) (q13 _ (by omega) edit) rfl trivial fun r1 => ?_
  refine o_exp rfl ?_
  refine x_op1 ?_
  refine o_var rfl ?_
  refine z_op1 rfl fun r2 => ?_
  refine z_op2 rfl rfl fun r3 => ?_
  refine z_and ?_ fun r11 => ?_
  · refine e_end ?_
    refine x_op2 ?_
    refine o_exp rfl ?_
    refine x_slc ?_
    refine o_var rfl ?_
    refine x_op2 ?_
    refine o_var rfl ?_
    refine o_exp rfl ?_
    refine x_int ?_
    refine z_op2 rfl rfl fun r4 => ?_
    refine s_loE rfl fun i5 => ?_
    refine x_call ?_
    refine g_cons rfl ?_
    refine x_var rfl ?_
    refine g_nil ?_
    refine z_callP (ds := [edit]) (q13 _ (by omega) edit) rfl trivial fun r6 => ?_
    refine s_hiE rfl fun i7 => ?_
    refine z_slc rfl fun r8 => ?_
    refine o_exp rfl ?_
    refine x_op2 ?_
    refine o_var rfl ?_
    refine o_exp rfl ?_
    refine x_int ?_
    refine z_op2 rfl rfl fun r9 => ?_
    refine z_op2 rfl rfl fun r10 => ?_
    exact qe_ok rfl rfl
  exact qf_ret rfl trivial
set_option maxHeartbeats 0 in
theorem q16 : ∀ (n : Nat), 3 ≤ n → ∀ (lines : D) (edits : D), FqP (f_law_applied lines edits) (calls dfs (shsOf tt) n 16 [.val lines, .val edits]) (fun c => R.val c) [.val lines, .val edits] := by
  intro n hn lines edits
  obtain ⟨n, rfl⟩ : ∃ k, n = k + 1 := ⟨n - 1, by omega⟩
  rw [calls_succ (d := d16) rfl]
  refine fq_pure (ds := [lines, edits]) rfl ?_
  change L _ _ (evB _ _ d16.body [some (.val lines), some (.val edits), none]) _
  unfold f_law_applied
  refine b_ife ?_
  refine x_not ?_
  refine x_op1 ?_
  refine o_exp rfl ?_
  refine x_call ?_
  refine g_cons rfl ?_
  refine x_var rfl ?_
  refine g_nil ?_
  refine z_callP (ds := [edits]) (q14 _ (by omega) edits) rfl trivial fun r1 => ?_
  refine z_op1 rfl fun r2 => ?_
  refine z_not fun r3 => ?_
  refine z_ife ?_ ?_
  · refine b_ret ?_
    refine x_non ?_
    exact qf_ret rfl trivial
  · refine b_kill (nv1 := [some (.val lines), some (.val edits), none]) rfl ?_
    refine b_for ?_
    refine g_cons rfl ?_
    refine x_var rfl ?_
    refine g_nil ?_
    refine z_for (g := fun s4 => [some (.val lines), some (.val edits), none]) (h := fun c => R.val c) (O := fun _ _ => True) rfl rfl (fun d6 s4 => ?_) (fun s5 => ?_) fun c nv o => ?_
    · refine a_nm (nv1 := [some (.val lines), some (.val edits), some (.val d6)]) rfl ?_
      refine b_ife ?_
      refine x_not ?_
      refine x_op1 ?_
      refine o_exp rfl ?_
      refine x_call ?_
      refine g_cons rfl ?_
      refine x_var rfl ?_
      refine g_cons rfl ?_
      refine x_var rfl ?_
      refine g_nil ?_
      refine z_callP (ds := [lines, d6]) (q15 _ (by omega) lines d6) rfl trivial fun r8 => ?_
      refine z_op1 rfl fun r9 => ?_
      refine z_not fun r10 => ?_
      refine z_ife ?_ ?_
      · refine b_ret ?_
        refine x_non ?_
        exact ql_ret rfl trivial
      · refine b_kill (nv1 := [some (.val lines), some (.val edits), none]) rfl ?_
        refine b_nil ?_
        exact ql_nx rfl
    · refine b_kill (nv1 := [some (.val lines), some (.val edits), none]) rfl ?_
      refine b_for ?_
      refine g_cons rfl ?_
      refine x_var rfl ?_
      refine g_nil ?_
      refine z_fold (g := fun s11 => [some (.val s11), some (.val edits), none]) rfl rfl (fun d13 s11 => ?_) fun s12 => ?_
      · refine a_nm (nv1 := [some (.val s11), some (.val edits), some (.val d13)]) rfl ?_
        refine b_asg ?_
        refine x_op2 ?_
        refine o_exp rfl ?_
        refine x_op2 ?_
        refine o_exp rfl ?_
        refine x_slc ?_
        refine o_var rfl ?_
        refine s_loN ?_
        refine x_op2 ?_
        refine o_var rfl ?_
        refine o_exp rfl ?_
        refine x_int ?_
        refine z_op2 rfl rfl fun r15 => ?_
        refine s_hiE rfl fun i16 => ?_
        refine z_slc rfl fun r17 => ?_
        refine o_exp rfl ?_
        refine x_op2 ?_
        refine o_var rfl ?_
        refine o_exp rfl ?_
        refine x_int ?_
        refine z_op2 rfl rfl fun r18 => ?_
        refine z_op2 rfl rfl fun r19 => ?_
        refine o_exp rfl ?_
        refine x_slc ?_
        refine o_var rfl ?_
        refine x_call ?_
        refine g_cons rfl ?_
        refine x_var rfl ?_
        refine g_nil ?_
        refine z_callP (ds := [d13]) (q13 _ (by omega) d13) rfl trivial fun r20 => ?_
        refine s_loE rfl fun i21 => ?_
        refine s_hiN ?_
        refine z_slc rfl fun r22 => ?_
        refine z_op2 rfl rfl fun r23 => ?_
        refine s_asg (nv1 := [some (.val r23), some (.val edits), some (.val d13)]) rfl ?_
        refine b_kill (nv1 := [some (.val r23), some (.val edits), none]) rfl ?_
        refine b_nil ?_
        exact qn_nx rfl
      refine b_ret ?_
      refine x_mov rfl ?_
      exact qf_ret rfl trivial
    exact qf_ret rfl o
set_option maxHeartbeats 0 in
theorem q17 : ∀ (n : Nat), 3 ≤ n → ∀ (tape : List D) (menu : D) (lines : D) (most : D) (room : D), FqL (f_law_fit_edits tape menu lines most room) (calls dfs (shsOf tt) n 17 [.lv (.l false) tape, .val menu, .val lines, .val most, .val room]) (fun c => R.val c.1) (fun c => [.lv (.l false) c.2, .val menu, .val lines, .val most, .val room]) := by
  intro n hn tape menu lines most room
  obtain ⟨n, rfl⟩ : ∃ k, n = k + 1 := ⟨n - 1, by omega⟩
  rw [calls_succ (d := d17) rfl]
  refine fq_lent (X := fun _ => True) rfl ?_
  change L _ _ (evB _ _ d17.body [some (.lv (.l false) tape), some (.val menu), some (.val lines), some (.val most), some (.val room), none, none, none, none, none]) _
  unfold f_law_fit_edits
  refine b_asg ?_
  refine x_lst ?_
  refine g_nil ?_
  refine z_lst (ds := []) rfl rfl ?_
  refine s_asg (nv1 := [some (.lv (.l false) tape), some (.val menu), some (.val lines), some (.val most), some (.val room), some (.lv (.l true) []), none, none, none, none]) rfl ?_
  refine b_asg ?_
  refine x_int ?_
  refine s_asg (nv1 := [some (.lv (.l false) tape), some (.val menu), some (.val lines), some (.val most), some (.val room), some (.lv (.l true) []), some (.val (D.int 0)), none, none, none]) rfl ?_
  refine b_kill (nv1 := [some (.lv (.l false) tape), some (.val menu), some (.val lines), some (.val most), some (.val room), some (.lv (.l true) []), some (.val (D.int 0)), none, none, none]) rfl ?_
  refine b_for ?_
  refine g_cons rfl ?_
  refine x_call ?_
  refine g_brw rfl ?_
  refine g_cons rfl ?_
  refine x_op2 ?_
  refine o_var rfl ?_
  refine o_exp rfl ?_
  refine x_int ?_
  refine z_op2 rfl rfl fun r1 => ?_
  refine g_nil ?_
  refine z_callL (g := fun p2 => [some (.lv (.l false) p2.2), some (.val menu), some (.val lines), some (.val most), some (.val room), some (.lv (.l true) []), some (.val (D.int 0)), none, none, none]) (q8 _ (by omega) tape r1) rfl rfl rfl (fun _ => rfl) fun p2 => ?_
  refine g_nil ?_
  refine z_for (g := fun s3 => [some (.lv (.l false) s3.1), some (.val menu), some (.val lines), some (.val most), some (.val s3.2.1), some (.lv (.l true) s3.2.2.1), some (.val s3.2.2.2), none, none, none]) (h := fun c => R.val c.1) (O := fun c nv => outsOf [0] [.lv (.l false) tape, .val menu, .val lines, .val most, .val room] nv = some [.lv (.l false) c.2, .val menu, .val lines, .val most, .val room]) rfl rfl (fun d5 s3 => ?_) (fun s4 => ?_) fun c nv o => ?_
  · refine a_nm (nv1 := [some (.lv (.l false) s3.1), some (.val menu), some (.val lines), some (.val most), some (.val s3.2.1), some (.lv (.l true) s3.2.2.1), some (.val s3.2.2.2), some (.val d5), none, none]) rfl ?_
    refine b_asg ?_
    refine x_op2 ?_
    refine o_exp rfl ?_
    refine x_op2 ?_
    refine o_var rfl ?_
    refine o_exp rfl ?_
    refine x_op2 ?_
    refine o_exp rfl ?_
    refine x_lst ?_
    refine g_cons rfl ?_
    refine x_int ?_
    refine g_cons rfl ?_
    refine x_int ?_
    refine g_cons rfl ?_
    refine x_int ?_
    refine g_cons rfl ?_
    refine x_int ?_
    refine g_cons rfl ?_
    refine x_int ?_
    refine g_nil ?_
    refine z_lst (ds := [(D.int 0), (D.int 0), (D.int 1), (D.int 3), (D.int 11)]) rfl rfl ?_
    refine o_exp rfl ?_
    refine x_call ?_
    refine g_brw rfl ?_
    refine g_cons rfl ?_
    refine x_int ?_
    refine g_nil ?_
    refine z_callL (g := fun p7 => [some (.lv (.l false) p7.2), some (.val menu), some (.val lines), some (.val most), some (.val s3.2.1), some (.lv (.l true) s3.2.2.1), some (.val s3.2.2.2), some (.val d5), none, none]) (q8 _ (by omega) s3.1 (D.int 5)) rfl rfl rfl (fun _ => rfl) fun p7 => ?_
    refine z_op2 rfl rfl fun r8 => ?_
    refine z_op2 rfl rfl fun r9 => ?_
    refine o_exp rfl ?_
    refine x_op1 ?_
    refine o_var rfl ?_
    refine z_op1 rfl fun r10 => ?_
    refine z_op2 rfl rfl fun r11 => ?_
    refine s_asg (nv1 := [some (.lv (.l false) p7.2), some (.val menu), some (.val lines), some (.val most), some (.val s3.2.1), some (.lv (.l true) s3.2.2.1), some (.val r11), some (.val d5), none, none]) rfl ?_
    refine b_ife ?_
    refine x_op2 ?_
    refine o_var rfl ?_
    refine o_exp rfl ?_
    refine x_int ?_
    refine z_op2 rfl rfl fun r12 => ?_
    refine z_ife ?_ ?_
    · refine b_kill (nv1 := [some (.lv (.l false) p7.2), some (.val menu), some (.val lines), some (.val most), some (.val s3.2.1), some (.lv (.l true) s3.2.2.1), some (.val r11), none, none, none]) rfl ?_
      refine b_brk ?_
      exact ql_brk rfl
    · refine b_asg ?_
      refine x_op2 ?_
      refine o_exp rfl ?_
      refine x_op2 ?_
      refine o_var rfl ?_
      refine o_exp rfl ?_
      refine x_op2 ?_
      refine o_exp rfl ?_
      refine x_lst ?_
      refine g_cons rfl ?_
      refine x_int ?_
      refine g_cons rfl ?_
      refine x_int ?_
      refine g_cons rfl ?_
      refine x_int ?_
      refine g_cons rfl ?_
      refine x_int ?_
      refine g_cons rfl ?_
      refine x_int ?_
      refine g_nil ?_
      refine z_lst (ds := [(D.int 0), (D.int 0), (D.int 1), (D.int 2), (D.int 6)]) rfl rfl ?_
      refine o_exp rfl ?_
      refine x_call ?_
      refine g_brw rfl ?_
      refine g_cons rfl ?_
      refine x_int ?_
      refine g_nil ?_
      refine z_callL (g := fun p13 => [some (.lv (.l false) p13.2), some (.val menu), some (.val lines), some (.val most), some (.val s3.2.1), some (.lv (.l true) s3.2.2.1), some (.val r11), some (.val d5), none, none]) (q8 _ (by omega) p7.2 (D.int 5)) rfl rfl rfl (fun _ => rfl) fun p13 => ?_
      refine z_op2 rfl rfl fun r14 => ?_
      refine z_op2 rfl rfl fun r15 => ?_
      refine o_exp rfl ?_
      refine x_op1 ?_
      refine o_var rfl ?_
      refine z_op1 rfl fun r16 => ?_
      refine z_op2 rfl rfl fun r17 => ?_
      refine s_asg (nv1 := [some (.lv (.l false) p13.2), some (.val menu), some (.val lines), some (.val most), some (.val s3.2.1), some (.lv (.l true) s3.2.2.1), some (.val r11), some (.val d5), some (.val r17), none]) rfl ?_
      refine b_asg ?_
      refine x_call ?_
      refine g_brw rfl ?_
      refine g_cons rfl ?_
      refine x_var rfl ?_
      refine g_cons rfl ?_
      refine x_op2 ?_
      refine o_exp rfl ?_
      refine x_op2 ?_
      refine o_exp rfl ?_
      refine x_lst ?_
      refine g_cons rfl ?_
      refine x_int ?_
      refine g_cons rfl ?_
      refine x_int ?_
      refine g_cons rfl ?_
      refine x_int ?_
      refine g_cons rfl ?_
      refine x_int ?_
      refine g_nil ?_
      refine z_lst (ds := [(D.int 0), (D.int 1), (D.int 2), (D.int 6)]) rfl rfl ?_
      refine o_exp rfl ?_
      refine x_call ?_
      refine g_brw rfl ?_
      refine g_cons rfl ?_
      refine x_int ?_
      refine g_nil ?_
      refine z_callL (g := fun p18 => [some (.lv (.l false) p18.2), some (.val menu), some (.val lines), some (.val most), some (.val s3.2.1), some (.lv (.l true) s3.2.2.1), some (.val r11), some (.val d5), some (.val r17), none]) (q8 _ (by omega) p13.2 (D.int 4)) rfl rfl rfl (fun _ => rfl) fun p18 => ?_
      refine z_op2 rfl rfl fun r19 => ?_
      refine o_var rfl ?_
      refine z_op2 rfl rfl fun r20 => ?_
      refine g_nil ?_
      refine z_callL (g := fun p21 => [some (.lv (.l false) p21.2), some (.val menu), some (.val lines), some (.val most), some (.val s3.2.1), some (.lv (.l true) s3.2.2.1), some (.val r11), some (.val d5), some (.val r17), none]) (q11 _ (by omega) p18.2 menu r20) rfl rfl rfl (fun _ => rfl) fun p21 => ?_
      refine s_asg (nv1 := [some (.lv (.l false) p21.2), some (.val menu), some (.val lines), some (.val most), some (.val s3.2.1), some (.lv (.l true) s3.2.2.1), some (.val r11), some (.val d5), some (.val r17), some (.val p21.1)]) rfl ?_
      refine b_expr ?_
      refine x_mth rfl ?_
      refine g_cons rfl ?_
      refine x_tup ?_
      refine g_cons rfl ?_
      refine x_var rfl ?_
      refine g_cons rfl ?_
      refine x_slc ?_
      refine o_var rfl ?_
      refine x_var rfl ?_
      refine s_loE rfl fun i22 => ?_
      refine x_var rfl ?_
      refine s_hiE rfl fun i23 => ?_
      refine z_slc rfl fun r24 => ?_
      refine g_cons rfl ?_
      refine x_var rfl ?_
      refine g_nil ?_
      refine z_tup (ds := [r11, r24, p21.1]) rfl rfl ?_
      refine g_nil ?_
      refine z_app (g := fun l25 => [some (.lv (.l false) p21.2), some (.val menu), some (.val lines), some (.val most), some (.val s3.2.1), some (.lv (.l true) l25), some (.val r11), some (.val d5), some (.val r17), some (.val p21.1)]) rfl (fun _ => rfl) fun l25 => ?_
      refine b_asg ?_
      refine x_op2 ?_
      refine o_var rfl ?_
      refine o_exp rfl ?_
      refine x_op1 ?_
      refine o_var rfl ?_
      refine z_op1 rfl fun r26 => ?_
      refine z_op2 rfl rfl fun r27 => ?_
      refine s_asg (nv1 := [some (.lv (.l false) p21.2), some (.val menu), some (.val lines), some (.val most), some (.val r27), some (.lv (.l true) l25), some (.val r11), some (.val d5), some (.val r17), some (.val p21.1)]) rfl ?_
      refine b_asg ?_
      refine x_var rfl ?_
      refine s_asg (nv1 := [some (.lv (.l false) p21.2), some (.val menu), some (.val lines), some (.val most), some (.val r27), some (.lv (.l true) l25), some (.val r17), some (.val d5), some (.val r17), some (.val p21.1)]) rfl ?_
      refine b_kill (nv1 := [some (.lv (.l false) p21.2), some (.val menu), some (.val lines), some (.val most), some (.val r27), some (.lv (.l true) l25), some (.val r17), none, none, none]) rfl ?_
      refine b_nil ?_
      exact ql_nx rfl
  · refine b_ret ?_
    refine x_op1 ?_
    refine o_var rfl ?_
    refine z_op1 rfl fun r28 => ?_
    exact qf_ret rfl rfl
  exact qf_ret rfl o
set_option maxHeartbeats 0 in
theorem q18 : ∀ (n : Nat), 3 ≤ n → ∀ (tape : List D) (menu : D) (lines : D) (most : D), FqL (f_law_loose_edits tape menu lines most) (calls dfs (shsOf tt) n 18 [.lv (.l false) tape, .val menu, .val lines, .val most]) (fun c => R.val c.1) (fun c => [.lv (.l false) c.2, .val menu, .val lines, .val most]) := by
  intro n hn tape menu lines most
  obtain ⟨n, rfl⟩ : ∃ k, n = k + 1 := ⟨n - 1, by omega⟩
  rw [calls_succ (d := d18) rfl]
  refine fq_lent (X := fun _ => True) rfl ?_
  change L _ _ (evB _ _ d18.body [some (.lv (.l false) tape), some (.val menu), some (.val lines), some (.val most), none, none, none, none, none]) _
  unfold f_law_loose_edits
  refine b_asg ?_
  refine x_lst ?_
  refine g_nil ?_
  refine z_lst (ds := []) rfl rfl ?_
  refine s_asg (nv1 := [some (.lv (.l false) tape), some (.val menu), some (.val lines), some (.val most), some (.lv (.l true) []), none, none, none, none]) rfl ?_
  refine b_kill (nv1 := [some (.lv (.l false) tape), some (.val menu), some (.val lines), some (.val most), some (.lv (.l true) []), none, none, none, none]) rfl ?_
  refine b_for ?_
  refine g_cons rfl ?_
  refine x_call ?_
  refine g_brw rfl ?_
  refine g_cons rfl ?_
  refine x_op2 ?_
  refine o_var rfl ?_
  refine o_exp rfl ?_
  refine x_int ?_
  refine z_op2 rfl rfl fun r1 => ?_
  refine g_nil ?_
  refine z_callL (g := fun p2 => [some (.lv (.l false) p2.2), some (.val menu), some (.val lines), some (.val most), some (.lv (.l true) []), none, none, none, none]) (q8 _ (by omega) tape r1) rfl rfl rfl (fun _ => rfl) fun p2 => ?_
  refine g_nil ?_
  refine z_fold (g := fun s3 => [some (.lv (.l false) s3.1), some (.val menu), some (.val lines), some (.val most), some (.lv (.l true) s3.2), none, none, none, none]) rfl rfl (fun d5 s3 => ?_) fun s4 => ?_
  · refine a_nm (nv1 := [some (.lv (.l false) s3.1), some (.val menu), some (.val lines), some (.val most), some (.lv (.l true) s3.2), some (.val d5), none, none, none]) rfl ?_
    refine b_asg ?_
    refine x_call ?_
    refine g_brw rfl ?_
    refine g_cons rfl ?_
    refine x_op2 ?_
    refine o_exp rfl ?_
    refine x_op2 ?_
    refine o_exp rfl ?_
    refine x_op1 ?_
    refine o_var rfl ?_
    refine z_op1 rfl fun r7 => ?_
    refine o_exp rfl ?_
    refine x_int ?_
    refine z_op2 rfl rfl fun r8 => ?_
    refine o_exp rfl ?_
    refine x_int ?_
    refine z_op2 rfl rfl fun r9 => ?_
    refine g_nil ?_
    refine z_callL (g := fun p10 => [some (.lv (.l false) p10.2), some (.val menu), some (.val lines), some (.val most), some (.lv (.l true) s3.2), some (.val d5), none, none, none]) (q8 _ (by omega) s3.1 r9) rfl rfl rfl (fun _ => rfl) fun p10 => ?_
    refine s_asg (nv1 := [some (.lv (.l false) p10.2), some (.val menu), some (.val lines), some (.val most), some (.lv (.l true) s3.2), some (.val d5), some (.val p10.1), none, none]) rfl ?_
    refine b_asg ?_
    refine x_op2 ?_
    refine o_exp rfl ?_
    refine x_op2 ?_
    refine o_var rfl ?_
    refine o_exp rfl ?_
    refine x_op2 ?_
    refine o_exp rfl ?_
    refine x_lst ?_
    refine g_cons rfl ?_
    refine x_int ?_
    refine g_cons rfl ?_
    refine x_int ?_
    refine g_cons rfl ?_
    refine x_int ?_
    refine g_cons rfl ?_
    refine x_int ?_
    refine g_cons rfl ?_
    refine x_int ?_
    refine g_cons rfl ?_
    refine x_int ?_
    refine g_nil ?_
    refine z_lst (ds := [(D.int 0), (D.int 0), (D.int 1), (D.int 2), (D.int 3), (D.int 6)]) rfl rfl ?_
    refine o_exp rfl ?_
    refine x_call ?_
    refine g_brw rfl ?_
    refine g_cons rfl ?_
    refine x_int ?_
    refine g_nil ?_
    refine z_callL (g := fun p11 => [some (.lv (.l false) p11.2), some (.val menu), some (.val lines), some (.val most), some (.lv (.l true) s3.2), some (.val d5), some (.val p10.1), none, none]) (q8 _ (by omega) p10.2 (D.int 6)) rfl rfl rfl (fun _ => rfl) fun p11 => ?_
    refine z_op2 rfl rfl fun r12 => ?_
    refine z_op2 rfl rfl fun r13 => ?_
    refine o_exp rfl ?_
    refine x_op1 ?_
    refine o_var rfl ?_
    refine z_op1 rfl fun r14 => ?_
    refine z_op2 rfl rfl fun r15 => ?_
    refine s_asg (nv1 := [some (.lv (.l false) p11.2), some (.val menu), some (.val lines), some (.val most), some (.lv (.l true) s3.2), some (.val d5), some (.val p10.1), some (.val r15), none]) rfl ?_
    refine b_asg ?_
    refine x_tup ?_
    refine g_cons rfl ?_
    refine x_var rfl ?_
    refine g_cons rfl ?_
    refine x_slc ?_
    refine o_var rfl ?_
    refine x_var rfl ?_
    refine s_loE rfl fun i16 => ?_
    refine x_var rfl ?_
    refine s_hiE rfl fun i17 => ?_
    refine z_slc rfl fun r18 => ?_
    refine g_cons rfl ?_
    refine x_call ?_
    refine g_brw rfl ?_
    refine g_cons rfl ?_
    refine x_var rfl ?_
    refine g_cons rfl ?_
    refine x_op2 ?_
    refine o_exp rfl ?_
    refine x_lst ?_
    refine g_cons rfl ?_
    refine x_int ?_
    refine g_cons rfl ?_
    refine x_int ?_
    refine g_cons rfl ?_
    refine x_int ?_
    refine g_cons rfl ?_
    refine x_int ?_
    refine g_nil ?_
    refine z_lst (ds := [(D.int 0), (D.int 1), (D.int 2), (D.int 6)]) rfl rfl ?_
    refine o_exp rfl ?_
    refine x_call ?_
    refine g_brw rfl ?_
    refine g_cons rfl ?_
    refine x_int ?_
    refine g_nil ?_
    refine z_callL (g := fun p19 => [some (.lv (.l false) p19.2), some (.val menu), some (.val lines), some (.val most), some (.lv (.l true) s3.2), some (.val d5), some (.val p10.1), some (.val r15), none]) (q8 _ (by omega) p11.2 (D.int 4)) rfl rfl rfl (fun _ => rfl) fun p19 => ?_
    refine z_op2 rfl rfl fun r20 => ?_
    refine g_nil ?_
    refine z_callL (g := fun p21 => [some (.lv (.l false) p21.2), some (.val menu), some (.val lines), some (.val most), some (.lv (.l true) s3.2), some (.val d5), some (.val p10.1), some (.val r15), none]) (q11 _ (by omega) p19.2 menu r20) rfl rfl rfl (fun _ => rfl) fun p21 => ?_
    refine g_nil ?_
    refine z_tup (ds := [p10.1, r18, p21.1]) rfl rfl ?_
    refine s_asg (nv1 := [some (.lv (.l false) p21.2), some (.val menu), some (.val lines), some (.val most), some (.lv (.l true) s3.2), some (.val d5), some (.val p10.1), some (.val r15), some (.val (D.tup [p10.1, r18, p21.1]))]) rfl ?_
    refine b_ife ?_
    refine x_and ?_
    refine x_op1 ?_
    refine o_var rfl ?_
    refine z_op1 rfl fun r22 => ?_
    refine z_andS (h := fun s25 => .val s25.1) (g := fun s25 => [some (.lv (.l false) s25.2), some (.val menu), some (.val lines), some (.val most), some (.lv (.l true) s3.2), some (.val d5), some (.val p10.1), some (.val r15), some (.val (D.tup [p10.1, r18, p21.1]))]) ?_ (qe_ok rfl rfl) fun s25 => ?_
    · refine e_end ?_
      refine x_op2 ?_
      refine o_exp rfl ?_
      refine x_call ?_
      refine g_brw rfl ?_
      refine g_cons rfl ?_
      refine x_int ?_
      refine g_nil ?_
      refine z_callL (g := fun p23 => [some (.lv (.l false) p23.2), some (.val menu), some (.val lines), some (.val most), some (.lv (.l true) s3.2), some (.val d5), some (.val p10.1), some (.val r15), some (.val (D.tup [p10.1, r18, p21.1]))]) (q8 _ (by omega) p21.2 (D.int 8)) rfl rfl rfl (fun _ => rfl) fun p23 => ?_
      refine o_exp rfl ?_
      refine x_int ?_
      refine z_op2 rfl rfl fun r24 => ?_
      exact qe_ok rfl rfl
    refine z_ifj (g := fun s29 => [some (.lv (.l false) s29.1), some (.val menu), some (.val lines), some (.val most), some (.lv (.l true) s3.2), none, none, none, some (.val s29.2)]) ?_ ?_ fun s29 => ?_
    · refine b_asg ?_
      refine x_op2 ?_
      refine o_var rfl ?_
      refine o_exp rfl ?_
      refine x_call ?_
      refine g_brw rfl ?_
      refine g_cons rfl ?_
      refine x_op1 ?_
      refine o_var rfl ?_
      refine z_op1 rfl fun r26 => ?_
      refine g_nil ?_
      refine z_callL (g := fun p27 => [some (.lv (.l false) p27.2), some (.val menu), some (.val lines), some (.val most), some (.lv (.l true) s3.2), some (.val d5), some (.val p10.1), some (.val r15), some (.val (D.tup [p10.1, r18, p21.1]))]) (q8 _ (by omega) s25.2 r26) rfl rfl rfl (fun _ => rfl) fun p27 => ?_
      refine z_op2 rfl rfl fun r28 => ?_
      refine s_asg (nv1 := [some (.lv (.l false) p27.2), some (.val menu), some (.val lines), some (.val most), some (.lv (.l true) s3.2), some (.val d5), some (.val p10.1), some (.val r15), some (.val r28)]) rfl ?_
      refine b_kill (nv1 := [some (.lv (.l false) p27.2), some (.val menu), some (.val lines), some (.val most), some (.lv (.l true) s3.2), none, none, none, some (.val r28)]) rfl ?_
      refine b_nil ?_
      exact qj_ok rfl
    · refine b_kill (nv1 := [some (.lv (.l false) s25.2), some (.val menu), some (.val lines), some (.val most), some (.lv (.l true) s3.2), none, none, none, some (.val (D.tup [p10.1, r18, p21.1]))]) rfl ?_
      refine b_nil ?_
      exact qj_ok rfl
    refine b_expr ?_
    refine x_mth rfl ?_
    refine g_cons rfl ?_
    refine x_var rfl ?_
    refine g_nil ?_
    refine z_app (g := fun l30 => [some (.lv (.l false) s29.1), some (.val menu), some (.val lines), some (.val most), some (.lv (.l true) l30), none, none, none, some (.val s29.2)]) rfl (fun _ => rfl) fun l30 => ?_
    refine b_kill (nv1 := [some (.lv (.l false) s29.1), some (.val menu), some (.val lines), some (.val most), some (.lv (.l true) l30), none, none, none, none]) rfl ?_
    refine b_nil ?_
    exact qn_nx rfl
  refine b_ret ?_
  refine x_op1 ?_
  refine o_var rfl ?_
  refine z_op1 rfl fun r31 => ?_
  exact qf_ret rfl rfl
set_option maxHeartbeats 0 in
theorem q19 : ∀ (n : Nat), 3 ≤ n → ∀ (tape : List D) (menu : D) (edits : D), FqL (f_law_spoilt tape menu edits) (calls dfs (shsOf tt) n 19 [.lv (.l false) tape, .val menu, .val edits]) (fun c => R.val c.1) (fun c => [.lv (.l false) c.2, .val menu, .val edits]) := by
  intro n hn tape menu edits
  obtain ⟨n, rfl⟩ : ∃ k, n = k + 1 := ⟨n - 1, by omega⟩
  rw [calls_succ (d := d19) rfl]
  refine fq_lent (X := fun _ => True) rfl ?_
  change L _ _ (evB _ _ d19.body [some (.lv (.l false) tape), some (.val menu), some (.val edits), none, none, none, none, none, none]) _
  unfold f_law_spoilt
  refine b_ife ?_
  refine x_not ?_
  refine x_op1 ?_
  refine o_var rfl ?_
  refine z_op1 rfl fun r1 => ?_
  refine z_not fun r2 => ?_
  refine z_ife ?_ ?_
  · refine b_ret ?_
    refine x_tup ?_
    refine g_cons rfl ?_
    refine x_tup ?_
    refine g_cons rfl ?_
    refine x_call ?_
    refine g_brw rfl ?_
    refine g_cons rfl ?_
    refine x_int ?_
    refine g_nil ?_
    refine z_callL (g := fun p3 => [some (.lv (.l false) p3.2), some (.val menu), some (.val edits), none, none, none, none, none, none]) (q8 _ (by omega) tape (D.int 31)) rfl rfl rfl (fun _ => rfl) fun p3 => ?_
    refine g_cons rfl ?_
    refine x_call ?_
    refine g_brw rfl ?_
    refine g_cons rfl ?_
    refine x_var rfl ?_
    refine g_cons rfl ?_
    refine x_int ?_
    refine g_nil ?_
    refine z_callL (g := fun p4 => [some (.lv (.l false) p4.2), some (.val menu), some (.val edits), none, none, none, none, none, none]) (q11 _ (by omega) p3.2 menu (D.int 6)) rfl rfl rfl (fun _ => rfl) fun p4 => ?_
    refine g_cons rfl ?_
    refine x_call ?_
    refine g_brw rfl ?_
    refine g_cons rfl ?_
    refine x_var rfl ?_
    refine g_cons rfl ?_
    refine x_int ?_
    refine g_nil ?_
    refine z_callL (g := fun p5 => [some (.lv (.l false) p5.2), some (.val menu), some (.val edits), none, none, none, none, none, none]) (q11 _ (by omega) p4.2 menu (D.int 2)) rfl rfl rfl (fun _ => rfl) fun p5 => ?_
    refine g_nil ?_
    refine z_tup (ds := [p3.1, p4.1, p5.1]) rfl rfl ?_
    refine g_nil ?_
    refine z_tup (ds := [(D.tup [p3.1, p4.1, p5.1])]) rfl rfl ?_
    exact qf_ret rfl rfl
  · refine b_asg ?_
    refine x_call ?_
    refine g_brw rfl ?_
    refine g_cons rfl ?_
    refine x_op1 ?_
    refine o_var rfl ?_
    refine z_op1 rfl fun r6 => ?_
    refine g_nil ?_
    refine z_callL (g := fun p7 => [some (.lv (.l false) p7.2), some (.val menu), some (.val edits), none, none, none, none, none, none]) (q8 _ (by omega) tape r6) rfl rfl rfl (fun _ => rfl) fun p7 => ?_
    refine s_asg (nv1 := [some (.lv (.l false) p7.2), some (.val menu), some (.val edits), some (.val p7.1), none, none, none, none, none]) rfl ?_
    refine b_asg ?_
    refine x_op2 ?_
    refine o_var rfl ?_
    refine o_var rfl ?_
    refine z_op2 rfl rfl fun r8 => ?_
    refine s_asg (nv1 := [some (.lv (.l false) p7.2), some (.val menu), some (.val edits), some (.val p7.1), some (.val r8), none, none, none, none]) rfl ?_
    refine b_asg ?_
    refine x_call ?_
    refine g_brw rfl ?_
    refine g_cons rfl ?_
    refine x_int ?_
    refine g_nil ?_
    refine z_callL (g := fun p9 => [some (.lv (.l false) p9.2), some (.val menu), some (.val edits), some (.val p7.1), some (.val r8), none, none, none, none]) (q8 _ (by omega) p7.2 (D.int 6)) rfl rfl rfl (fun _ => rfl) fun p9 => ?_
    refine s_asg (nv1 := [some (.lv (.l false) p9.2), some (.val menu), some (.val edits), some (.val p7.1), some (.val r8), some (.val p9.1), none, none, none]) rfl ?_
    refine b_ife ?_
    refine x_and ?_
    refine x_op2 ?_
    refine o_var rfl ?_
    refine o_exp rfl ?_
    refine x_int ?_
    refine z_op2 rfl rfl fun r10 => ?_
    refine z_and ?_ fun r13 => ?_
    · refine e_end ?_
      refine x_op1 ?_
      refine o_exp rfl ?_
      refine x_op2 ?_
      refine o_var rfl ?_
      refine o_exp rfl ?_
      refine x_int ?_
      refine z_op2 rfl rfl fun r11 => ?_
      refine z_op1 rfl fun r12 => ?_
      exact qe_ok rfl rfl
    refine z_ife ?_ ?_
    · refine b_asg ?_
      refine x_call ?_
      refine g_brw rfl ?_
      refine g_cons rfl ?_
      refine x_op1 ?_
      refine o_exp rfl ?_
      refine x_op2 ?_
      refine o_var rfl ?_
      refine o_exp rfl ?_
      refine x_int ?_
      refine z_op2 rfl rfl fun r14 => ?_
      refine z_op1 rfl fun r15 => ?_
      refine g_nil ?_
      refine z_callL (g := fun p16 => [some (.lv (.l false) p16.2), some (.val menu), some (.val edits), some (.val p7.1), some (.val r8), some (.val p9.1), none, none, none]) (q8 _ (by omega) p9.2 r15) rfl rfl rfl (fun _ => rfl) fun p16 => ?_
      refine s_asg (nv1 := [some (.lv (.l false) p16.2), some (.val menu), some (.val edits), some (.val p7.1), some (.val r8), some (.val p9.1), some (.val p16.1), none, none]) rfl ?_
      refine b_asg ?_
      refine x_tup ?_
      refine g_cons rfl ?_
      refine x_op2 ?_
      refine o_var rfl ?_
      refine o_exp rfl ?_
      refine x_int ?_
      refine z_op2 rfl rfl fun r17 => ?_
      refine g_cons rfl ?_
      refine x_op2 ?_
      refine o_exp rfl ?_
      refine x_op2 ?_
      refine o_exp rfl ?_
      refine x_slc ?_
      refine o_exp rfl ?_
      refine x_op2 ?_
      refine o_var rfl ?_
      refine o_exp rfl ?_
      refine x_int ?_
      refine z_op2 rfl rfl fun r18 => ?_
      refine s_loN ?_
      refine x_var rfl ?_
      refine s_hiE rfl fun i19 => ?_
      refine z_slc rfl fun r20 => ?_
      refine o_exp rfl ?_
      refine x_tup ?_
      refine g_cons rfl ?_
      refine x_op2 ?_
      refine o_var rfl ?_
      refine o_exp rfl ?_
      refine x_call ?_
      refine g_brw rfl ?_
      refine g_cons rfl ?_
      refine x_op1 ?_
      refine o_var rfl ?_
      refine z_op1 rfl fun r21 => ?_
      refine g_nil ?_
      refine z_callL (g := fun p22 => [some (.lv (.l false) p22.2), some (.val menu), some (.val edits), some (.val p7.1), some (.val r8), some (.val p9.1), some (.val p16.1), none, none]) (q8 _ (by omega) p16.2 r21) rfl rfl rfl (fun _ => rfl) fun p22 => ?_
      refine z_op2 rfl rfl fun r23 => ?_
      refine g_nil ?_
      refine z_tup (ds := [r23]) rfl rfl ?_
      refine z_op2 rfl rfl fun r24 => ?_
      refine o_exp rfl ?_
      refine x_slc ?_
      refine o_exp rfl ?_
      refine x_op2 ?_
      refine o_var rfl ?_
      refine o_exp rfl ?_
      refine x_int ?_
      refine z_op2 rfl rfl fun r25 => ?_
      refine x_op2 ?_
      refine o_var rfl ?_
      refine o_exp rfl ?_
      refine x_int ?_
      refine z_op2 rfl rfl fun r26 => ?_
      refine s_loE rfl fun i27 => ?_
      refine s_hiN ?_
      refine z_slc rfl fun r28 => ?_
      refine z_op2 rfl rfl fun r29 => ?_
      refine g_cons rfl ?_
      refine x_op2 ?_
      refine o_var rfl ?_
      refine o_exp rfl ?_
      refine x_int ?_
      refine z_op2 rfl rfl fun r30 => ?_
      refine g_nil ?_
      refine z_tup (ds := [r17, r29, r30]) rfl rfl ?_
      refine s_asg (nv1 := [some (.lv (.l false) p22.2), some (.val menu), some (.val edits), some (.val p7.1), some (.val (D.tup [r17, r29, r30])), some (.val p9.1), some (.val p16.1), none, none]) rfl ?_
      refine b_ret ?_
      refine x_op2 ?_
      refine o_exp rfl ?_
      refine x_op2 ?_
      refine o_exp rfl ?_
      refine x_slc ?_
      refine o_var rfl ?_
      refine s_loN ?_
      refine x_var rfl ?_
      refine s_hiE rfl fun i31 => ?_
      refine z_slc rfl fun r32 => ?_
      refine o_exp rfl ?_
      refine x_tup ?_
      refine g_cons rfl ?_
      refine x_var rfl ?_
      refine g_nil ?_
      refine z_tup (ds := [(D.tup [r17, r29, r30])]) rfl rfl ?_
      refine z_op2 rfl rfl fun r33 => ?_
      refine o_exp rfl ?_
      refine x_slc ?_
      refine o_var rfl ?_
      refine x_op2 ?_
      refine o_var rfl ?_
      refine o_exp rfl ?_
      refine x_int ?_
      refine z_op2 rfl rfl fun r34 => ?_
      refine s_loE rfl fun i35 => ?_
      refine s_hiN ?_
      refine z_slc rfl fun r36 => ?_
      refine z_op2 rfl rfl fun r37 => ?_
      exact qf_ret rfl rfl
    · refine b_ife ?_
      refine x_op2 ?_
      refine o_var rfl ?_
      refine o_exp rfl ?_
      refine x_int ?_
      refine z_op2 rfl rfl fun r38 => ?_
      refine z_ife ?_ ?_
      · refine b_asg ?_
        refine x_tup ?_
        refine g_cons rfl ?_
        refine x_op2 ?_
        refine o_exp rfl ?_
        refine x_op2 ?_
        refine o_exp rfl ?_
        refine x_op2 ?_
        refine o_var rfl ?_
        refine o_exp rfl ?_
        refine x_int ?_
        refine z_op2 rfl rfl fun r39 => ?_
        refine o_exp rfl ?_
        refine x_int ?_
        refine z_op2 rfl rfl fun r40 => ?_
        refine o_exp rfl ?_
        refine x_int ?_
        refine z_op2 rfl rfl fun r41 => ?_
        refine g_cons rfl ?_
        refine x_op2 ?_
        refine o_var rfl ?_
        refine o_exp rfl ?_
        refine x_int ?_
        refine z_op2 rfl rfl fun r42 => ?_
        refine g_cons rfl ?_
        refine x_op2 ?_
        refine o_var rfl ?_
        refine o_exp rfl ?_
        refine x_int ?_
        refine z_op2 rfl rfl fun r43 => ?_
        refine g_nil ?_
        refine z_tup (ds := [r41, r42, r43]) rfl rfl ?_
        refine s_asg (nv1 := [some (.lv (.l false) p9.2), some (.val menu), some (.val edits), some (.val p7.1), some (.val (D.tup [r41, r42, r43])), some (.val p9.1), none, none, none]) rfl ?_
        refine b_ret ?_
        refine x_op2 ?_
        refine o_exp rfl ?_
        refine x_op2 ?_
        refine o_exp rfl ?_
        refine x_slc ?_
        refine o_var rfl ?_
        refine s_loN ?_
        refine x_var rfl ?_
        refine s_hiE rfl fun i44 => ?_
        refine z_slc rfl fun r45 => ?_
        refine o_exp rfl ?_
        refine x_tup ?_
        refine g_cons rfl ?_
        refine x_var rfl ?_
        refine g_nil ?_
        refine z_tup (ds := [(D.tup [r41, r42, r43])]) rfl rfl ?_
        refine z_op2 rfl rfl fun r46 => ?_
        refine o_exp rfl ?_
        refine x_slc ?_
        refine o_var rfl ?_
        refine x_op2 ?_
        refine o_var rfl ?_
        refine o_exp rfl ?_
        refine x_int ?_
        refine z_op2 rfl rfl fun r47 => ?_
        refine s_loE rfl fun i48 => ?_
        refine s_hiN ?_
        refine z_slc rfl fun r49 => ?_
        refine z_op2 rfl rfl fun r50 => ?_
        exact qf_ret rfl rfl
      · refine b_ife ?_
        refine x_op2 ?_
        refine o_var rfl ?_
        refine o_exp rfl ?_
        refine x_int ?_
        refine z_op2 rfl rfl fun r51 => ?_
        refine z_ife ?_ ?_
        · refine b_asg ?_
          refine x_tup ?_
          refine g_cons rfl ?_
          refine x_op2 ?_
          refine o_exp rfl ?_
          refine x_op2 ?_
          refine o_exp rfl ?_
          refine x_op2 ?_
          refine o_exp rfl ?_
          refine x_op2 ?_
          refine o_var rfl ?_
          refine o_exp rfl ?_
          refine x_int ?_
          refine z_op2 rfl rfl fun r52 => ?_
          refine o_exp rfl ?_
          refine x_int ?_
          refine z_op2 rfl rfl fun r53 => ?_
          refine o_exp rfl ?_
          refine x_call ?_
          refine g_brw rfl ?_
          refine g_cons rfl ?_
          refine x_int ?_
          refine g_nil ?_
          refine z_callL (g := fun p54 => [some (.lv (.l false) p54.2), some (.val menu), some (.val edits), some (.val p7.1), some (.val r8), some (.val p9.1), none, none, none]) (q8 _ (by omega) p9.2 (D.int 3)) rfl rfl rfl (fun _ => rfl) fun p54 => ?_
          refine z_op2 rfl rfl fun r55 => ?_
          refine o_exp rfl ?_
          refine x_int ?_
          refine z_op2 rfl rfl fun r56 => ?_
          refine g_cons rfl ?_
          refine x_op2 ?_
          refine o_var rfl ?_
          refine o_exp rfl ?_
          refine x_int ?_
          refine z_op2 rfl rfl fun r57 => ?_
          refine g_cons rfl ?_
          refine x_op2 ?_
          refine o_var rfl ?_
          refine o_exp rfl ?_
          refine x_int ?_
          refine z_op2 rfl rfl fun r58 => ?_
          refine g_nil ?_
          refine z_tup (ds := [r56, r57, r58]) rfl rfl ?_
          refine s_asg (nv1 := [some (.lv (.l false) p54.2), some (.val menu), some (.val edits), some (.val p7.1), some (.val (D.tup [r56, r57, r58])), some (.val p9.1), none, none, none]) rfl ?_
          refine b_ret ?_
          refine x_op2 ?_
          refine o_exp rfl ?_
          refine x_op2 ?_
          refine o_exp rfl ?_
          refine x_slc ?_
          refine o_var rfl ?_
          refine s_loN ?_
          refine x_var rfl ?_
          refine s_hiE rfl fun i59 => ?_
          refine z_slc rfl fun r60 => ?_
          refine o_exp rfl ?_
          refine x_tup ?_
          refine g_cons rfl ?_
          refine x_var rfl ?_
          refine g_nil ?_
          refine z_tup (ds := [(D.tup [r56, r57, r58])]) rfl rfl ?_
          refine z_op2 rfl rfl fun r61 => ?_
          refine o_exp rfl ?_
          refine x_slc ?_
          refine o_var rfl ?_
          refine x_op2 ?_
          refine o_var rfl ?_
          refine o_exp rfl ?_
          refine x_int ?_
          refine z_op2 rfl rfl fun r62 => ?_
          refine s_loE rfl fun i63 => ?_
          refine s_hiN ?_
          refine z_slc rfl fun r64 => ?_
          refine z_op2 rfl rfl fun r65 => ?_
          exact qf_ret rfl rfl
        · refine b_ife ?_
          refine x_op2 ?_
          refine o_var rfl ?_
          refine o_exp rfl ?_
          refine x_int ?_
          refine z_op2 rfl rfl fun r66 => ?_
          refine z_ife ?_ ?_
          · refine b_asg ?_
            refine x_tup ?_
            refine g_cons rfl ?_
            refine x_op2 ?_
            refine o_var rfl ?_
            refine o_exp rfl ?_
            refine x_int ?_
            refine z_op2 rfl rfl fun r67 => ?_
            refine g_cons rfl ?_
            refine x_slc ?_
            refine o_exp rfl ?_
            refine x_op2 ?_
            refine o_exp rfl ?_
            refine x_op2 ?_
            refine o_var rfl ?_
            refine o_exp rfl ?_
            refine x_int ?_
            refine z_op2 rfl rfl fun r68 => ?_
            refine o_exp rfl ?_
            refine x_tup ?_
            refine g_cons rfl ?_
            refine x_op2 ?_
            refine o_var rfl ?_
            refine o_exp rfl ?_
            refine x_call ?_
            refine g_brw rfl ?_
            refine g_cons rfl ?_
            refine x_op1 ?_
            refine o_var rfl ?_
            refine z_op1 rfl fun r69 => ?_
            refine g_nil ?_
            refine z_callL (g := fun p70 => [some (.lv (.l false) p70.2), some (.val menu), some (.val edits), some (.val p7.1), some (.val r8), some (.val p9.1), none, none, none]) (q8 _ (by omega) p9.2 r69) rfl rfl rfl (fun _ => rfl) fun p70 => ?_
            refine z_op2 rfl rfl fun r71 => ?_
            refine g_nil ?_
            refine z_tup (ds := [r71]) rfl rfl ?_
            refine z_op2 rfl rfl fun r72 => ?_
            refine s_loN ?_
            refine x_int ?_
            refine s_hiE rfl fun i73 => ?_
            refine z_slc rfl fun r74 => ?_
            refine g_cons rfl ?_
            refine x_op2 ?_
            refine o_var rfl ?_
            refine o_exp rfl ?_
            refine x_int ?_
            refine z_op2 rfl rfl fun r75 => ?_
            refine g_nil ?_
            refine z_tup (ds := [r67, r74, r75]) rfl rfl ?_
            refine s_asg (nv1 := [some (.lv (.l false) p70.2), some (.val menu), some (.val edits), some (.val p7.1), some (.val (D.tup [r67, r74, r75])), some (.val p9.1), none, none, none]) rfl ?_
            refine b_ret ?_
            refine x_op2 ?_
            refine o_exp rfl ?_
            refine x_op2 ?_
            refine o_exp rfl ?_
            refine x_slc ?_
            refine o_var rfl ?_
            refine s_loN ?_
            refine x_var rfl ?_
            refine s_hiE rfl fun i76 => ?_
            refine z_slc rfl fun r77 => ?_
            refine o_exp rfl ?_
            refine x_tup ?_
            refine g_cons rfl ?_
            refine x_var rfl ?_
            refine g_nil ?_
            refine z_tup (ds := [(D.tup [r67, r74, r75])]) rfl rfl ?_
            refine z_op2 rfl rfl fun r78 => ?_
            refine o_exp rfl ?_
            refine x_slc ?_
            refine o_var rfl ?_
            refine x_op2 ?_
            refine o_var rfl ?_
            refine o_exp rfl ?_
            refine x_int ?_
            refine z_op2 rfl rfl fun r79 => ?_
            refine s_loE rfl fun i80 => ?_
            refine s_hiN ?_
            refine z_slc rfl fun r81 => ?_
            refine z_op2 rfl rfl fun r82 => ?_
            exact qf_ret rfl rfl
          · refine b_ife ?_
            refine x_and ?_
            refine x_op2 ?_
            refine o_var rfl ?_
            refine o_exp rfl ?_
            refine x_int ?_
            refine z_op2 rfl rfl fun r83 => ?_
            refine z_and ?_ fun r86 => ?_
            · refine e_end ?_
              refine x_op2 ?_
              refine o_exp rfl ?_
              refine x_op1 ?_
              refine o_var rfl ?_
              refine z_op1 rfl fun r84 => ?_
              refine o_exp rfl ?_
              refine x_int ?_
              refine z_op2 rfl rfl fun r85 => ?_
              exact qe_ok rfl rfl
            refine z_ife ?_ ?_
            · refine b_ret ?_
              refine x_op2 ?_
              refine o_exp rfl ?_
              refine x_op2 ?_
              refine o_exp rfl ?_
              refine x_slc ?_
              refine o_var rfl ?_
              refine s_loN ?_
              refine x_var rfl ?_
              refine s_hiE rfl fun i87 => ?_
              refine z_slc rfl fun r88 => ?_
              refine o_exp rfl ?_
              refine x_tup ?_
              refine g_cons rfl ?_
              refine x_var rfl ?_
              refine g_nil ?_
              refine z_tup (ds := [r8]) rfl rfl ?_
              refine z_op2 rfl rfl fun r89 => ?_
              refine o_exp rfl ?_
              refine x_slc ?_
              refine o_var rfl ?_
              refine x_var rfl ?_
              refine s_loE rfl fun i90 => ?_
              refine s_hiN ?_
              refine z_slc rfl fun r91 => ?_
              refine z_op2 rfl rfl fun r92 => ?_
              exact qf_ret rfl rfl
            · refine b_asg ?_
              refine x_call ?_
              refine g_brw rfl ?_
              refine g_cons rfl ?_
              refine x_op1 ?_
              refine o_var rfl ?_
              refine z_op1 rfl fun r93 => ?_
              refine g_nil ?_
              refine z_callL (g := fun p94 => [some (.lv (.l false) p94.2), some (.val menu), some (.val edits), some (.val p7.1), some (.val r8), some (.val p9.1), none, none, none]) (q8 _ (by omega) p9.2 r93) rfl rfl rfl (fun _ => rfl) fun p94 => ?_
              refine s_asg (nv1 := [some (.lv (.l false) p94.2), some (.val menu), some (.val edits), some (.val p7.1), some (.val r8), some (.val p9.1), none, some (.val p94.1), none]) rfl ?_
              refine b_asg ?_
              refine x_op1 ?_
              refine o_var rfl ?_
              refine z_op1o rfl fun r95 => ?_
              refine s_asg (nv1 := [some (.lv (.l false) p94.2), some (.val menu), some (.val edits), some (.val p7.1), some (.val r8), some (.val p9.1), none, some (.val p94.1), some (.lv (.l true) r95)]) rfl ?_
              refine b_sti ?_
              refine x_op2 ?_
              refine o_var rfl ?_
              refine o_var rfl ?_
              refine z_op2 rfl rfl fun r96 => ?_
              refine s_sti rfl ?_
              refine x_var rfl ?_
              refine z_st (g := fun l97 => [some (.lv (.l false) p94.2), some (.val menu), some (.val edits), some (.val p7.1), some (.val r8), some (.val p9.1), none, some (.val p94.1), some (.lv (.l true) l97)]) rfl (fun _ => rfl) fun l97 => ?_
              refine b_sti ?_
              refine x_var rfl ?_
              refine s_sti rfl ?_
              refine x_var rfl ?_
              refine z_st (g := fun l98 => [some (.lv (.l false) p94.2), some (.val menu), some (.val edits), some (.val p7.1), some (.val r8), some (.val p9.1), none, some (.val p94.1), some (.lv (.l true) l98)]) rfl (fun _ => rfl) fun l98 => ?_
              refine b_ret ?_
              refine x_op1 ?_
              refine o_var rfl ?_
              refine z_op1 rfl fun r99 => ?_
              exact qf_ret rfl rfl
set_option maxHeartbeats 0 in
theorem q20 : ∀ (n : Nat), 3 ≤ n → ∀ (tape : List D) (menu : D) (most : D), FqL (f_law_wild_edits tape menu most) (calls dfs (shsOf tt) n 20 [.lv (.l false) tape, .val menu, .val most]) (fun c => R.val c.1) (fun c => [.lv (.l false) c.2, .val menu, .val most]) := by
  intro n hn tape menu most
  obtain ⟨n, rfl⟩ : ∃ k, n = k + 1 := ⟨n - 1, by omega⟩
  rw [calls_succ (d := d20) rfl]
  refine fq_lent (X := fun _ => True) rfl ?_
  change L _ _ (evB _ _ d20.body [some (.lv (.l false) tape), some (.val menu), some (.val most), none, none, none, none, none, none]) _
  unfold f_law_wild_edits
  refine b_asg ?_
  refine x_lst ?_
  refine g_nil ?_
  refine z_lst (ds := []) rfl rfl ?_
  refine s_asg (nv1 := [some (.lv (.l false) tape), some (.val menu), some (.val most), some (.lv (.l true) []), none, none, none, none, none]) rfl ?_
  refine b_asg ?_
  refine x_op2 ?_
  refine o_exp rfl ?_
  refine x_lst ?_
  refine g_cons rfl ?_
  refine x_int ?_
  refine g_cons rfl ?_
  refine x_int ?_
  refine g_cons rfl ?_
  refine x_int ?_
  refine g_nil ?_
  refine z_lst (ds := [(D.int 4), (D.int 13), (D.int 31)]) rfl rfl ?_
  refine o_exp rfl ?_
  refine x_call ?_
  refine g_brw rfl ?_
  refine g_cons rfl ?_
  refine x_int ?_
  refine g_nil ?_
  refine z_callL (g := fun p1 => [some (.lv (.l false) p1.2), some (.val menu), some (.val most), some (.lv (.l true) []), none, none, none, none, none]) (q8 _ (by omega) tape (D.int 3)) rfl rfl rfl (fun _ => rfl) fun p1 => ?_
  refine z_op2 rfl rfl fun r2 => ?_
  refine s_asg (nv1 := [some (.lv (.l false) p1.2), some (.val menu), some (.val most), some (.lv (.l true) []), some (.val r2), none, none, none, none]) rfl ?_
  refine b_kill (nv1 := [some (.lv (.l false) p1.2), some (.val menu), some (.val most), some (.lv (.l true) []), some (.val r2), none, none, none, none]) rfl ?_
  refine b_for ?_
  refine g_cons rfl ?_
  refine x_call ?_
  refine g_brw rfl ?_
  refine g_cons rfl ?_
  refine x_op2 ?_
  refine o_var rfl ?_
  refine o_exp rfl ?_
  refine x_int ?_
  refine z_op2 rfl rfl fun r3 => ?_
  refine g_nil ?_
  refine z_callL (g := fun p4 => [some (.lv (.l false) p4.2), some (.val menu), some (.val most), some (.lv (.l true) []), some (.val r2), none, none, none, none]) (q8 _ (by omega) p1.2 r3) rfl rfl rfl (fun _ => rfl) fun p4 => ?_
  refine g_nil ?_
  refine z_fold (g := fun s5 => [some (.lv (.l false) s5.1), some (.val menu), some (.val most), some (.lv (.l true) s5.2), some (.val r2), none, none, none, none]) rfl rfl (fun d7 s5 => ?_) fun s6 => ?_
  · refine a_nm (nv1 := [some (.lv (.l false) s5.1), some (.val menu), some (.val most), some (.lv (.l true) s5.2), some (.val r2), some (.val d7), none, none, none]) rfl ?_
    refine b_asg ?_
    refine x_call ?_
    refine g_brw rfl ?_
    refine g_cons rfl ?_
    refine x_var rfl ?_
    refine g_nil ?_
    refine z_callL (g := fun p9 => [some (.lv (.l false) p9.2), some (.val menu), some (.val most), some (.lv (.l true) s5.2), some (.val r2), some (.val d7), none, none, none]) (q8 _ (by omega) s5.1 r2) rfl rfl rfl (fun _ => rfl) fun p9 => ?_
    refine s_asg (nv1 := [some (.lv (.l false) p9.2), some (.val menu), some (.val most), some (.lv (.l true) s5.2), some (.val r2), some (.val d7), some (.val p9.1), none, none]) rfl ?_
    refine b_asg ?_
    refine x_call ?_
    refine g_brw rfl ?_
    refine g_cons rfl ?_
    refine x_var rfl ?_
    refine g_cons rfl ?_
    refine x_op2 ?_
    refine o_exp rfl ?_
    refine x_lst ?_
    refine g_cons rfl ?_
    refine x_int ?_
    refine g_cons rfl ?_
    refine x_int ?_
    refine g_cons rfl ?_
    refine x_int ?_
    refine g_cons rfl ?_
    refine x_int ?_
    refine g_nil ?_
    refine z_lst (ds := [(D.int 0), (D.int 1), (D.int 2), (D.int 6)]) rfl rfl ?_
    refine o_exp rfl ?_
    refine x_call ?_
    refine g_brw rfl ?_
    refine g_cons rfl ?_
    refine x_int ?_
    refine g_nil ?_
    refine z_callL (g := fun p10 => [some (.lv (.l false) p10.2), some (.val menu), some (.val most), some (.lv (.l true) s5.2), some (.val r2), some (.val d7), some (.val p9.1), none, none]) (q8 _ (by omega) p9.2 (D.int 4)) rfl rfl rfl (fun _ => rfl) fun p10 => ?_
    refine z_op2 rfl rfl fun r11 => ?_
    refine g_nil ?_
    refine z_callL (g := fun p12 => [some (.lv (.l false) p12.2), some (.val menu), some (.val most), some (.lv (.l true) s5.2), some (.val r2), some (.val d7), some (.val p9.1), none, none]) (q11 _ (by omega) p10.2 menu r11) rfl rfl rfl (fun _ => rfl) fun p12 => ?_
    refine s_asg (nv1 := [some (.lv (.l false) p12.2), some (.val menu), some (.val most), some (.lv (.l true) s5.2), some (.val r2), some (.val d7), some (.val p9.1), some (.val p12.1), none]) rfl ?_
    refine b_asg ?_
    refine x_tup ?_
    refine g_cons rfl ?_
    refine x_var rfl ?_
    refine g_cons rfl ?_
    refine x_var rfl ?_
    refine g_cons rfl ?_
    refine x_call ?_
    refine g_brw rfl ?_
    refine g_cons rfl ?_
    refine x_var rfl ?_
    refine g_cons rfl ?_
    refine x_op2 ?_
    refine o_exp rfl ?_
    refine x_lst ?_
    refine g_cons rfl ?_
    refine x_int ?_
    refine g_cons rfl ?_
    refine x_int ?_
    refine g_cons rfl ?_
    refine x_int ?_
    refine g_cons rfl ?_
    refine x_int ?_
    refine g_nil ?_
    refine z_lst (ds := [(D.int 0), (D.int 1), (D.int 2), (D.int 6)]) rfl rfl ?_
    refine o_exp rfl ?_
    refine x_call ?_
    refine g_brw rfl ?_
    refine g_cons rfl ?_
    refine x_int ?_
    refine g_nil ?_
    refine z_callL (g := fun p13 => [some (.lv (.l false) p13.2), some (.val menu), some (.val most), some (.lv (.l true) s5.2), some (.val r2), some (.val d7), some (.val p9.1), some (.val p12.1), none]) (q8 _ (by omega) p12.2 (D.int 4)) rfl rfl rfl (fun _ => rfl) fun p13 => ?_
    refine z_op2 rfl rfl fun r14 => ?_
    refine g_nil ?_
    refine z_callL (g := fun p15 => [some (.lv (.l false) p15.2), some (.val menu), some (.val most), some (.lv (.l true) s5.2), some (.val r2), some (.val d7), some (.val p9.1), some (.val p12.1), none]) (q11 _ (by omega) p13.2 menu r14) rfl rfl rfl (fun _ => rfl) fun p15 => ?_
    refine g_nil ?_
    refine z_tup (ds := [p9.1, p12.1, p15.1]) rfl rfl ?_
    refine s_asg (nv1 := [some (.lv (.l false) p15.2), some (.val menu), some (.val most), some (.lv (.l true) s5.2), some (.val r2), some (.val d7), some (.val p9.1), some (.val p12.1), some (.val (D.tup [p9.1, p12.1, p15.1]))]) rfl ?_
    refine b_ife ?_
    refine x_and ?_
    refine x_op1 ?_
    refine o_var rfl ?_
    refine z_op1 rfl fun r16 => ?_
    refine z_andS (h := fun s19 => .val s19.1) (g := fun s19 => [some (.lv (.l false) s19.2), some (.val menu), some (.val most), some (.lv (.l true) s5.2), some (.val r2), some (.val d7), some (.val p9.1), some (.val p12.1), some (.val (D.tup [p9.1, p12.1, p15.1]))]) ?_ (qe_ok rfl rfl) fun s19 => ?_
    · refine e_end ?_
      refine x_op2 ?_
      refine o_exp rfl ?_
      refine x_call ?_
      refine g_brw rfl ?_
      refine g_cons rfl ?_
      refine x_int ?_
      refine g_nil ?_
      refine z_callL (g := fun p17 => [some (.lv (.l false) p17.2), some (.val menu), some (.val most), some (.lv (.l true) s5.2), some (.val r2), some (.val d7), some (.val p9.1), some (.val p12.1), some (.val (D.tup [p9.1, p12.1, p15.1]))]) (q8 _ (by omega) p15.2 (D.int 6)) rfl rfl rfl (fun _ => rfl) fun p17 => ?_
      refine o_exp rfl ?_
      refine x_int ?_
      refine z_op2 rfl rfl fun r18 => ?_
      exact qe_ok rfl rfl
    refine z_ifj (g := fun s23 => [some (.lv (.l false) s23.1), some (.val menu), some (.val most), some (.lv (.l true) s5.2), some (.val r2), none, none, none, some (.val s23.2)]) ?_ ?_ fun s23 => ?_
    · refine b_asg ?_
      refine x_op2 ?_
      refine o_var rfl ?_
      refine o_exp rfl ?_
      refine x_call ?_
      refine g_brw rfl ?_
      refine g_cons rfl ?_
      refine x_op1 ?_
      refine o_var rfl ?_
      refine z_op1 rfl fun r20 => ?_
      refine g_nil ?_
      refine z_callL (g := fun p21 => [some (.lv (.l false) p21.2), some (.val menu), some (.val most), some (.lv (.l true) s5.2), some (.val r2), some (.val d7), some (.val p9.1), some (.val p12.1), some (.val (D.tup [p9.1, p12.1, p15.1]))]) (q8 _ (by omega) s19.2 r20) rfl rfl rfl (fun _ => rfl) fun p21 => ?_
      refine z_op2 rfl rfl fun r22 => ?_
      refine s_asg (nv1 := [some (.lv (.l false) p21.2), some (.val menu), some (.val most), some (.lv (.l true) s5.2), some (.val r2), some (.val d7), some (.val p9.1), some (.val p12.1), some (.val r22)]) rfl ?_
      refine b_kill (nv1 := [some (.lv (.l false) p21.2), some (.val menu), some (.val most), some (.lv (.l true) s5.2), some (.val r2), none, none, none, some (.val r22)]) rfl ?_
      refine b_nil ?_
      exact qj_ok rfl
    · refine b_kill (nv1 := [some (.lv (.l false) s19.2), some (.val menu), some (.val most), some (.lv (.l true) s5.2), some (.val r2), none, none, none, some (.val (D.tup [p9.1, p12.1, p15.1]))]) rfl ?_
      refine b_nil ?_
      exact qj_ok rfl
    refine b_expr ?_
    refine x_mth rfl ?_
    refine g_cons rfl ?_
    refine x_var rfl ?_
    refine g_nil ?_
    refine z_app (g := fun l24 => [some (.lv (.l false) s23.1), some (.val menu), some (.val most), some (.lv (.l true) l24), some (.val r2), none, none, none, some (.val s23.2)]) rfl (fun _ => rfl) fun l24 => ?_
    refine b_kill (nv1 := [some (.lv (.l false) s23.1), some (.val menu), some (.val most), some (.lv (.l true) l24), some (.val r2), none, none, none, none]) rfl ?_
    refine b_nil ?_
    exact qn_nx rfl
  refine b_ret ?_
  refine x_op1 ?_
  refine o_var rfl ?_
  refine z_op1 rfl fun r25 => ?_
  exact qf_ret rfl rfl
set_option maxHeartbeats 0 in
theorem q21 : ∀ (n : Nat), 4 ≤ n → ∀ (tape : List D) (menu : D) (lines : D), FqL (f_law_some_edits tape menu lines) (calls dfs (shsOf tt) n 21 [.lv (.l false) tape, .val menu, .val lines]) (fun c => R.val c.1) (fun c => [.lv (.l false) c.2, .val menu, .val lines]) := by
  intro n hn tape menu lines
  obtain ⟨n, rfl⟩ : ∃ k, n = k + 1 := ⟨n - 1, by omega⟩
  rw [calls_succ (d := d21) rfl]
  refine fq_lent (X := fun _ => True) rfl ?_
  change L _ _ (evB _ _ d21.body [some (.lv (.l false) tape), some (.val menu), some (.val lines), none, none]) _
  unfold f_law_some_edits
  refine b_asg ?_
  refine x_call ?_
  refine g_brw rfl ?_
  refine g_cons rfl ?_
  refine x_int ?_
  refine g_nil ?_
  refine z_callL (g := fun p1 => [some (.lv (.l false) p1.2), some (.val menu), some (.val lines), none, none]) (q8 _ (by omega) tape (D.int 6)) rfl rfl rfl (fun _ => rfl) fun p1 => ?_
  refine s_asg (nv1 := [some (.lv (.l false) p1.2), some (.val menu), some (.val lines), some (.val p1.1), none]) rfl ?_
  refine b_ife ?_
  refine x_op2 ?_
  refine o_var rfl ?_
  refine o_exp rfl ?_
  refine x_int ?_
  refine z_op2 rfl rfl fun r2 => ?_
  refine z_ife ?_ ?_
  · refine b_ret ?_
    refine x_call ?_
    refine g_brw rfl ?_
    refine g_cons rfl ?_
    refine x_var rfl ?_
    refine g_cons rfl ?_
    refine x_op2 ?_
    refine o_exp rfl ?_
    refine x_lst ?_
    refine g_cons rfl ?_
    refine x_int ?_
    refine g_cons rfl ?_
    refine x_int ?_
    refine g_nil ?_
    refine z_lst (ds := [(D.int 3), (D.int 8)]) rfl rfl ?_
    refine o_exp rfl ?_
    refine x_call ?_
    refine g_brw rfl ?_
    refine g_cons rfl ?_
    refine x_int ?_
    refine g_nil ?_
    refine z_callL (g := fun p3 => [some (.lv (.l false) p3.2), some (.val menu), some (.val lines), some (.val p1.1), none]) (q8 _ (by omega) p1.2 (D.int 2)) rfl rfl rfl (fun _ => rfl) fun p3 => ?_
    refine z_op2 rfl rfl fun r4 => ?_
    refine g_nil ?_
    refine z_callL (g := fun p5 => [some (.lv (.l false) p5.2), some (.val menu), some (.val lines), some (.val p1.1), none]) (q20 _ (by omega) p3.2 menu r4) rfl rfl rfl (fun _ => rfl) fun p5 => ?_
    exact qf_ret rfl rfl
  · refine b_ife ?_
    refine x_op2 ?_
    refine o_var rfl ?_
    refine o_exp rfl ?_
    refine x_int ?_
    refine z_op2 rfl rfl fun r6 => ?_
    refine z_ifj (g := fun s11 => [some (.lv (.l false) s11.1), some (.val menu), none, some (.val p1.1), some (.val s11.2)]) ?_ ?_ fun s11 => ?_
    · refine b_asg ?_
      refine x_call ?_
      refine g_brw rfl ?_
      refine g_cons rfl ?_
      refine x_var rfl ?_
      refine g_cons rfl ?_
      refine x_var rfl ?_
      refine g_cons rfl ?_
      refine x_int ?_
      refine g_cons rfl ?_
      refine x_int ?_
      refine g_nil ?_
      refine z_callL (g := fun p7 => [some (.lv (.l false) p7.2), some (.val menu), some (.val lines), some (.val p1.1), none]) (q17 _ (by omega) p1.2 menu lines (D.int 8) (D.int 48)) rfl rfl rfl (fun _ => rfl) fun p7 => ?_
      refine s_asg (nv1 := [some (.lv (.l false) p7.2), some (.val menu), some (.val lines), some (.val p1.1), some (.val p7.1)]) rfl ?_
      refine b_kill (nv1 := [some (.lv (.l false) p7.2), some (.val menu), none, some (.val p1.1), some (.val p7.1)]) rfl ?_
      refine b_nil ?_
      exact qj_ok rfl
    · refine b_asg ?_
      refine x_call ?_
      refine g_brw rfl ?_
      refine g_cons rfl ?_
      refine x_var rfl ?_
      refine g_cons rfl ?_
      refine x_var rfl ?_
      refine g_cons rfl ?_
      refine x_op2 ?_
      refine o_exp rfl ?_
      refine x_lst ?_
      refine g_cons rfl ?_
      refine x_int ?_
      refine g_cons rfl ?_
      refine x_int ?_
      refine g_nil ?_
      refine z_lst (ds := [(D.int 3), (D.int 8)]) rfl rfl ?_
      refine o_exp rfl ?_
      refine x_call ?_
      refine g_brw rfl ?_
      refine g_cons rfl ?_
      refine x_int ?_
      refine g_nil ?_
      refine z_callL (g := fun p8 => [some (.lv (.l false) p8.2), some (.val menu), some (.val lines), some (.val p1.1), none]) (q8 _ (by omega) p1.2 (D.int 2)) rfl rfl rfl (fun _ => rfl) fun p8 => ?_
      refine z_op2 rfl rfl fun r9 => ?_
      refine g_nil ?_
      refine z_callL (g := fun p10 => [some (.lv (.l false) p10.2), some (.val menu), some (.val lines), some (.val p1.1), none]) (q18 _ (by omega) p8.2 menu lines r9) rfl rfl rfl (fun _ => rfl) fun p10 => ?_
      refine s_asg (nv1 := [some (.lv (.l false) p10.2), some (.val menu), some (.val lines), some (.val p1.1), some (.val p10.1)]) rfl ?_
      refine b_kill (nv1 := [some (.lv (.l false) p10.2), some (.val menu), none, some (.val p1.1), some (.val p10.1)]) rfl ?_
      refine b_nil ?_
      exact qj_ok rfl
    refine b_ife ?_
    refine x_or ?_
    refine x_op2 ?_
    refine o_var rfl ?_
    refine o_exp rfl ?_
    refine x_int ?_
    refine z_op2 rfl rfl fun r12 => ?_
    refine z_or ?_ fun r14 => ?_
    · refine e_end ?_
      refine x_op2 ?_
      refine o_var rfl ?_
      refine o_exp rfl ?_
      refine x_int ?_
      refine z_op2 rfl rfl fun r13 => ?_
      exact qe_ok rfl rfl
    refine z_ifj (g := fun s16 => [some (.lv (.l false) s16.1), none, none, none, some (.val s16.2)]) ?_ ?_ fun s16 => ?_
    · refine b_asg ?_
      refine x_call ?_
      refine g_brw rfl ?_
      refine g_cons rfl ?_
      refine x_var rfl ?_
      refine g_cons rfl ?_
      refine x_var rfl ?_
      refine g_nil ?_
      refine z_callL (g := fun p15 => [some (.lv (.l false) p15.2), some (.val menu), none, some (.val p1.1), some (.val s11.2)]) (q19 _ (by omega) s11.1 menu s11.2) rfl rfl rfl (fun _ => rfl) fun p15 => ?_
      refine s_asg (nv1 := [some (.lv (.l false) p15.2), some (.val menu), none, some (.val p1.1), some (.val p15.1)]) rfl ?_
      refine b_kill (nv1 := [some (.lv (.l false) p15.2), none, none, none, some (.val p15.1)]) rfl ?_
      refine b_nil ?_
      exact qj_ok rfl
    · refine b_kill (nv1 := [some (.lv (.l false) s11.1), none, none, none, some (.val s11.2)]) rfl ?_
      refine b_nil ?_
      exact qj_ok rfl
    refine b_ret ?_
    refine x_mov rfl ?_
    exact qf_ret rfl rfl
set_option maxHeartbeats 0 in
theorem q22 : ∀ (n : Nat), 4 ≤ n → ∀ (edits : D), FqP (f_law_refused edits) (calls dfs (shsOf tt) n 22 [.val edits]) (fun c => R.val c) [.val edits] := by
  intro n hn edits
  obtain ⟨n, rfl⟩ : ∃ k, n = k + 1 := ⟨n - 1, by omega⟩
  rw [calls_succ (d := d22) rfl]
  refine fq_pure (ds := [edits]) rfl ?_
  change L _ _ (evB _ _ d22.body [some (.val edits), none]) _
  unfold f_law_refused
  refine b_try ?_ (fun _ => ?_) ?_
  · refine e_end ?_
    refine x_call ?_
    refine g_cons rfl ?_
    refine x_var rfl ?_
    refine g_nil ?_
    refine z_callP (ds := [edits]) (q5 _ (by omega) edits) rfl trivial fun r1 => ?_
    exact qe_ok rfl rfl
  · exact qf_ret rfl trivial
  · refine b_ret ?_
    refine x_bl ?_
    exact qf_ret rfl trivial
set_option maxHeartbeats 0 in
theorem q23 : ∀ (n : Nat), 1 ≤ n → ∀ (edits : D), FqP (f_law_due_28 edits) (calls dfs (shsOf tt) n 23 [.val edits]) (fun c => R.val c) [.val edits] := by
  intro n hn edits
  obtain ⟨n, rfl⟩ : ∃ k, n = k + 1 := ⟨n - 1, by omega⟩
  rw [calls_succ (d := d23) rfl]
  refine fq_pure (ds := [edits]) rfl ?_
  change L _ _ (evB _ _ d23.body [some (.val edits), none, none, none]) _
  unfold f_law_due_28
  refine b_asg ?_
  refine x_lst ?_
  refine g_nil ?_
  refine z_lst (ds := []) rfl rfl ?_
  refine s_asg (nv1 := [some (.val edits), some (.lv (.l true) []), none, none]) rfl ?_
  refine b_asg ?_
  refine x_int ?_
  refine s_asg (nv1 := [some (.val edits), some (.lv (.l true) []), some (.val (D.int 0)), none]) rfl ?_
  refine b_kill (nv1 := [some (.val edits), some (.lv (.l true) []), some (.val (D.int 0)), none]) rfl ?_
  refine b_for ?_
  refine g_cons rfl ?_
  refine x_var rfl ?_
  refine g_nil ?_
  refine z_fold (g := fun s1 => [some (.val edits), some (.lv (.l true) s1.1), some (.val s1.2), none]) rfl rfl (fun d3 s1 => ?_) fun s2 => ?_
  · refine a_nm (nv1 := [some (.val edits), some (.lv (.l true) s1.1), some (.val s1.2), some (.val d3)]) rfl ?_
    refine b_expr ?_
    refine x_mth rfl ?_
    refine g_cons rfl ?_
    refine x_tup ?_
    refine g_cons rfl ?_
    refine x_op2 ?_
    refine o_exp rfl ?_
    refine x_op2 ?_
    refine o_var rfl ?_
    refine o_exp rfl ?_
    refine x_int ?_
    refine z_op2 rfl rfl fun r5 => ?_
    refine o_var rfl ?_
    refine z_op2 rfl rfl fun r6 => ?_
    refine g_cons rfl ?_
    refine x_op2 ?_
    refine o_var rfl ?_
    refine o_exp rfl ?_
    refine x_int ?_
    refine z_op2 rfl rfl fun r7 => ?_
    refine g_cons rfl ?_
    refine x_op2 ?_
    refine o_var rfl ?_
    refine o_exp rfl ?_
    refine x_int ?_
    refine z_op2 rfl rfl fun r8 => ?_
    refine g_nil ?_
    refine z_tup (ds := [r6, r7, r8]) rfl rfl ?_
    refine g_nil ?_
    refine z_app (g := fun l9 => [some (.val edits), some (.lv (.l true) l9), some (.val s1.2), some (.val d3)]) rfl (fun _ => rfl) fun l9 => ?_
    refine b_asg ?_
    refine x_op2 ?_
    refine o_exp rfl ?_
    refine x_op2 ?_
    refine o_var rfl ?_
    refine o_exp rfl ?_
    refine x_op1 ?_
    refine o_exp rfl ?_
    refine x_op2 ?_
    refine o_var rfl ?_
    refine o_exp rfl ?_
    refine x_int ?_
    refine z_op2 rfl rfl fun r10 => ?_
    refine z_op1 rfl fun r11 => ?_
    refine z_op2 rfl rfl fun r12 => ?_
    refine o_exp rfl ?_
    refine x_op1 ?_
    refine o_exp rfl ?_
    refine x_op2 ?_
    refine o_var rfl ?_
    refine o_exp rfl ?_
    refine x_int ?_
    refine z_op2 rfl rfl fun r13 => ?_
    refine z_op1 rfl fun r14 => ?_
    refine z_op2 rfl rfl fun r15 => ?_
    refine s_asg (nv1 := [some (.val edits), some (.lv (.l true) l9), some (.val r15), some (.val d3)]) rfl ?_
    refine b_kill (nv1 := [some (.val edits), some (.lv (.l true) l9), some (.val r15), none]) rfl ?_
    refine b_nil ?_
    exact qn_nx rfl
  refine b_ret ?_
  refine x_op1 ?_
  refine o_var rfl ?_
  refine z_op1 rfl fun r16 => ?_
  exact qf_ret rfl trivial
set_option maxHeartbeats 0 in
theorem q24 : ∀ (n : Nat), 32 ≤ n → ∀ (script : D), FqP (f_law_28 script) (calls dfs (shsOf tt) n 24 [.val script]) (fun c => R.val c) [.val script] := by
  intro n hn script
  obtain ⟨n, rfl⟩ : ∃ k, n = k + 1 := ⟨n - 1, by omega⟩
  rw [calls_succ (d := d24) rfl]
  refine fq_pure (ds := [script]) rfl ?_
  change L _ _ (evB _ _ d24.body [some (.val script), none, none, none, none, none, none, none, none]) _
  unfold f_law_28
  refine b_asg ?_
  refine x_call ?_
  refine g_cons rfl ?_
  refine x_var rfl ?_
  refine g_nil ?_
  refine z_callP (ds := [script]) (q7 _ (by omega) script) rfl trivial fun r1 => ?_
  refine s_asg (nv1 := [some (.val script), some (.lv (.l true) r1), none, none, none, none, none, none, none]) rfl ?_
  refine b_asg ?_
  refine x_call ?_
  refine g_brw rfl ?_
  refine g_nil ?_
  refine z_callL (g := fun p2 => [some (.val script), some (.lv (.l true) p2.2), none, none, none, none, none, none, none]) (q10 _ (by omega) r1) rfl rfl rfl (fun _ => rfl) fun p2 => ?_
  refine s_asg (nv1 := [some (.val script), some (.lv (.l true) p2.2), some (.lv (.l true) p2.1), none, none, none, none, none, none]) rfl ?_
  refine b_asg ?_
  refine x_call ?_
  refine g_brw rfl ?_
  refine g_cons rfl ?_
  refine x_varF (nv1 := [some (.val script), some (.lv (.l true) p2.2), some (.val (D.lst p2.1)), none, none, none, none, none, none]) rfl rfl ?_
  refine g_nil ?_
  refine z_callL (g := fun p3 => [some (.val script), some (.lv (.l true) p3.2), some (.val (D.lst p2.1)), none, none, none, none, none, none]) (q12 _ (by omega) p2.2 (D.lst p2.1)) rfl rfl rfl (fun _ => rfl) fun p3 => ?_
  refine s_asg (nv1 := [some (.val script), some (.lv (.l true) p3.2), some (.val (D.lst p2.1)), some (.val p3.1), none, none, none, none, none]) rfl ?_
  refine b_asg ?_
  refine x_slc ?_
  refine o_var rfl ?_
  refine s_loN ?_
  refine x_int ?_
  refine s_hiE rfl fun i4 => ?_
  refine z_slc rfl fun r5 => ?_
  refine s_asg (nv1 := [some (.val script), some (.lv (.l true) p3.2), some (.val (D.lst p2.1)), some (.val p3.1), some (.val r5), none, none, none, none]) rfl ?_
  refine b_asg ?_
  refine x_call ?_
  refine g_brw rfl ?_
  refine g_cons rfl ?_
  refine x_var rfl ?_
  refine g_cons rfl ?_
  refine x_var rfl ?_
  refine g_nil ?_
  refine z_callL (g := fun p6 => [some (.val script), some (.lv (.l true) p6.2), some (.val (D.lst p2.1)), some (.val p3.1), some (.val r5), none, none, none, none]) (q21 _ (by omega) p3.2 (D.lst p2.1) p3.1) rfl rfl rfl (fun _ => rfl) fun p6 => ?_
  refine s_asg (nv1 := [some (.val script), some (.lv (.l true) p6.2), some (.val (D.lst p2.1)), some (.val p3.1), some (.val r5), some (.val p6.1), none, none, none]) rfl ?_
  refine b_ife ?_
  refine x_not ?_
  refine x_op1 ?_
  refine o_exp rfl ?_
  refine x_call ?_
  refine g_cons rfl ?_
  refine x_var rfl ?_
  refine g_nil ?_
  refine z_callP (ds := [p6.1]) (q14 _ (by omega) p6.1) rfl trivial fun r7 => ?_
  refine z_op1 rfl fun r8 => ?_
  refine z_not fun r9 => ?_
  refine z_ife ?_ ?_
  · refine b_kill (nv1 := [none, none, none, none, none, some (.val p6.1), none, none, none]) rfl ?_
    refine b_for ?_
    refine g_cons rfl ?_
    refine x_int ?_
    refine g_nil ?_
    refine z_for (g := fun s10 => [none, none, none, none, none, some (.val p6.1), none, none, none]) (h := fun c => R.val c) (O := fun _ _ => True) rfl rfl (fun d12 s10 => ?_) (fun s11 => ?_) fun c nv o => ?_
    · refine a_nm (nv1 := [none, none, none, none, none, some (.val p6.1), some (.val d12), none, none]) rfl ?_
      refine b_ife ?_
      refine x_or ?_
      refine x_not ?_
      refine x_op1 ?_
      refine o_exp rfl ?_
      refine x_call ?_
      refine g_cons rfl ?_
      refine x_call ?_
      refine g_cons rfl ?_
      refine x_slc ?_
      refine o_var rfl ?_
      refine s_loN ?_
      refine x_int ?_
      refine s_hiE rfl fun i14 => ?_
      refine z_slc rfl fun r15 => ?_
      refine g_nil ?_
      refine z_callP (ds := [r15]) (q5 _ (by omega) r15) rfl trivial fun r16 => ?_
      refine g_cons rfl ?_
      refine x_call ?_
      refine g_cons rfl ?_
      refine x_slc ?_
      refine o_var rfl ?_
      refine s_loN ?_
      refine x_int ?_
      refine s_hiE rfl fun i17 => ?_
      refine z_slc rfl fun r18 => ?_
      refine g_nil ?_
      refine z_callP (ds := [r18]) (q23 _ (by omega) r18) rfl trivial fun r19 => ?_
      refine g_nil ?_
      refine z_callP (ds := [r16, r19]) (q9 30 _ (by omega) r16 r19) rfl trivial fun r20 => ?_
      refine z_op1 rfl fun r21 => ?_
      refine z_not fun r22 => ?_
      refine z_or ?_ fun r26 => ?_
      · refine e_end ?_
        refine x_not ?_
        refine x_op1 ?_
        refine o_exp rfl ?_
        refine x_call ?_
        refine g_cons rfl ?_
        refine x_var rfl ?_
        refine g_nil ?_
        refine z_callP (ds := [p6.1]) (q22 _ (by omega) p6.1) rfl trivial fun r23 => ?_
        refine z_op1 rfl fun r24 => ?_
        refine z_not fun r25 => ?_
        exact qe_ok rfl rfl
      refine z_ife ?_ ?_
      · refine b_ret ?_
        refine x_bl ?_
        exact ql_ret rfl trivial
      · refine b_kill (nv1 := [none, none, none, none, none, some (.val p6.1), none, none, none]) rfl ?_
        refine b_nil ?_
        exact ql_nx rfl
    · refine b_ret ?_
      refine x_bl ?_
      exact qf_ret rfl trivial
    exact qf_ret rfl o
  · refine b_asg ?_
    refine x_call ?_
    refine g_cons rfl ?_
    refine x_var rfl ?_
    refine g_nil ?_
    refine z_callP (ds := [p6.1]) (q5 _ (by omega) p6.1) rfl trivial fun r27 => ?_
    refine s_asg (nv1 := [some (.val script), some (.lv (.l true) p6.2), some (.val (D.lst p2.1)), some (.val p3.1), some (.val r5), some (.val p6.1), none, some (.val r27), none]) rfl ?_
    refine b_ife ?_
    refine x_or ?_
    refine x_not ?_
    refine x_op1 ?_
    refine o_exp rfl ?_
    refine x_call ?_
    refine g_cons rfl ?_
    refine x_var rfl ?_
    refine g_cons rfl ?_
    refine x_call ?_
    refine g_cons rfl ?_
    refine x_var rfl ?_
    refine g_nil ?_
    refine z_callP (ds := [p6.1]) (q23 _ (by omega) p6.1) rfl trivial fun r28 => ?_
    refine g_nil ?_
    refine z_callP (ds := [r27, r28]) (q9 30 _ (by omega) r27 r28) rfl trivial fun r29 => ?_
    refine z_op1 rfl fun r30 => ?_
    refine z_not fun r31 => ?_
    refine z_or ?_ fun r36 => ?_
    · refine e_end ?_
      refine x_not ?_
      refine x_op1 ?_
      refine o_exp rfl ?_
      refine x_call ?_
      refine g_cons rfl ?_
      refine x_call ?_
      refine g_cons rfl ?_
      refine x_var rfl ?_
      refine g_nil ?_
      refine z_callP (ds := [r27]) (q2 _ (by omega) r27) rfl trivial fun r32 => ?_
      refine g_cons rfl ?_
      refine x_bl ?_
      refine g_nil ?_
      refine z_callP (ds := [r32, (D.bl true)]) (q9 30 _ (by omega) r32 (D.bl true)) rfl trivial fun r33 => ?_
      refine z_op1 rfl fun r34 => ?_
      refine z_not fun r35 => ?_
      exact qe_ok rfl rfl
    refine z_ife ?_ ?_
    · refine b_ret ?_
      refine x_bl ?_
      exact qf_ret rfl trivial
    · refine b_ife ?_
      refine x_not ?_
      refine x_op1 ?_
      refine o_exp rfl ?_
      refine x_call ?_
      refine g_cons rfl ?_
      refine x_call ?_
      refine g_cons rfl ?_
      refine x_var rfl ?_
      refine g_nil ?_
      refine z_callP (ds := [r27]) (q5 _ (by omega) r27) rfl trivial fun r37 => ?_
      refine g_cons rfl ?_
      refine x_var rfl ?_
      refine g_nil ?_
      refine z_callP (ds := [r37, p6.1]) (q9 30 _ (by omega) r37 p6.1) rfl trivial fun r38 => ?_
      refine z_op1 rfl fun r39 => ?_
      refine z_not fun r40 => ?_
      refine z_ife ?_ ?_
      · refine b_ret ?_
        refine x_bl ?_
        exact qf_ret rfl trivial
      · refine b_asg ?_
        refine x_call ?_
        refine g_cons rfl ?_
        refine x_var rfl ?_
        refine g_cons rfl ?_
        refine x_var rfl ?_
        refine g_nil ?_
        refine z_callP (ds := [r5, p6.1]) (q3 _ (by omega) r5 p6.1) rfl trivial fun r41 => ?_
        refine s_asg (nv1 := [some (.val script), some (.lv (.l true) p6.2), some (.val (D.lst p2.1)), some (.val p3.1), some (.val r5), some (.val p6.1), none, some (.val r27), some (.val r41)]) rfl ?_
        refine b_ife ?_
        refine x_not ?_
        refine x_op1 ?_
        refine o_exp rfl ?_
        refine x_call ?_
        refine g_cons rfl ?_
        refine x_var rfl ?_
        refine g_cons rfl ?_
        refine x_call ?_
        refine g_cons rfl ?_
        refine x_var rfl ?_
        refine g_cons rfl ?_
        refine x_var rfl ?_
        refine g_nil ?_
        refine z_callP (ds := [r5, p6.1]) (q16 _ (by omega) r5 p6.1) rfl trivial fun r42 => ?_
        refine g_nil ?_
        refine z_callP (ds := [r41, r42]) (q9 30 _ (by omega) r41 r42) rfl trivial fun r43 => ?_
        refine z_op1 rfl fun r44 => ?_
        refine z_not fun r45 => ?_
        refine z_ife ?_ ?_
        · refine b_ret ?_
          refine x_bl ?_
          exact qf_ret rfl trivial
        · refine b_ret ?_
          refine x_or ?_
          refine x_op1 ?_
          refine o_var rfl ?_
          refine z_op1 rfl fun r46 => ?_
          refine z_or ?_ fun r49 => ?_
          · refine e_end ?_
            refine x_call ?_
            refine g_cons rfl ?_
            refine x_call ?_
            refine g_cons rfl ?_
            refine x_var rfl ?_
            refine g_cons rfl ?_
            refine x_var rfl ?_
            refine g_nil ?_
            refine z_callP (ds := [r41, r27]) (q3 _ (by omega) r41 r27) rfl trivial fun r47 => ?_
            refine g_cons rfl ?_
            refine x_var rfl ?_
            refine g_nil ?_
            refine z_callP (ds := [r47, r5]) (q9 30 _ (by omega) r47 r5) rfl trivial fun r48 => ?_
            exact qe_ok rfl rfl
          exact qf_ret rfl trivial
theorem pure_of (h : ∀ ns : List Int, ns.length ≤ 63 → f_law_28 (.scr ns) = .ok (.bl true)) : ∀ ns : List Int, ns.length ≤ 63 → ∃ outs, calls dfs (shsOf tt) 100 24 [.val (.scr ns)] = .ok (.val (.bl true)) outs := by
  intro ns hl
  have e := q24 100 (by decide) (.scr ns)
  rw [h ns hl] at e
  exact ⟨_, e.un⟩
end K28
namespace K28
open PySem L2 G
theorem same_b {b : Bool} : f_law_same 30 (.bl b) (.bl b) = .ok (.bl true) := same_refl 29 _ trivial
def EdW (e : Ed) : Prop := e.p ≤ 1000 ∧ e.r.length ≤ 100 ∧ e.i.length ≤ 100
theorem plain_ed {e : Ed} (h : EdW e) : plain 28 (ed e) := by
  have hz : (16777216 : Nat) ≤ SZ := Nat.le_refl _
  have h1 : e.r.length ≤ 100 := h.2.1
  have h2 : e.i.length ≤ 100 := h.2.2
  refine ⟨by show 3 ≤ SZ; decide, fun d hd => ?_⟩
  simp only [List.mem_cons, List.not_mem_nil, or_false] at hd
  rcases hd with rfl | rfl | rfl
  · trivial
  · exact ⟨by rw [List.length_map]; omega, fun d hd => by obtain ⟨s, _, rfl⟩ := List.mem_map.mp hd; trivial⟩
  · exact ⟨by rw [List.length_map]; omega, fun d hd => by obtain ⟨s, _, rfl⟩ := List.mem_map.mp hd; trivial⟩
theorem plain_eds {L : List Ed} (hl : L.length ≤ 9) (h : ∀ e ∈ L, EdW e) : plain 29 (eds L) := by
  have hz : (16777216 : Nat) ≤ SZ := Nat.le_refl _
  refine ⟨by rw [List.length_map]; omega, fun d hd => ?_⟩
  obtain ⟨e, he, rfl⟩ := List.mem_map.mp hd
  exact plain_ed (h e he)
theorem law_ok (ns : List Int) (_ : ns.length ≤ 63) : f_law_28 (.scr ns) = .ok (.bl true) := by
  have hz : (20000 : Nat) ≤ SZ := by decide
  refine Zw.eq ?_
  unfold f_law_28
  refine zc (tape_ok ns) fun t ht => ?_
  refine zcn (menu_ok ht) fun r hr => ?_
  obtain ⟨ms, t⟩ := r
  obtain ⟨hm, ht⟩ := hr
  refine zcn (row_ok ht hm) fun r hr => ?_
  obtain ⟨row, t⟩ := r
  obtain ⟨x, e, hx, ht⟩ := hr
  dsimp only at e ht hm ⊢
  subst e
  have h12 : (12 : Int) = ((12 : Nat) : Int) := rfl
  rw [h12, part_i, slc_txH, bind_ok']
  refine zcn (some_edits_ok ht hm (by omega)) fun r hr => ?_
  obtain ⟨r1, t⟩ := r
  obtain ⟨⟨es, e, h1, h2⟩, ht⟩ := hr
  dsimp only at e ht ⊢
  subst e
  generalize hl : x.take 12 = l
  have hl12 : l.length ≤ 12 := by rw [← hl]; simp; omega
  rw [law_ordered_ok es (by omega), bind_ok', tr_b, bind_ok', not_b, bind_ok']
  have ib : ∀ es : List Ed, es.length ≤ 9 → (∀ e ∈ es, EdB e) → inOrd es = true → ∀ e ∈ inv 0 0 es, EdW e := fun es g1 g2 g3 e he => by
    cases es with
    | nil => simp [inv] at he
    | cons f fs =>
      obtain ⟨hf0, hf1⟩ := fol_0 g3
      simp only [inv] at he
      simp only [List.length_cons] at g1
      obtain ⟨b1, b2, b3⟩ := g2 f (List.mem_cons_self ..)
      rcases List.mem_cons.mp he with rfl | he
      · exact ⟨by dsimp only; omega, b3, b2⟩
      · have hee : f.e = f.p + f.r.length := rfl
        have := inv_b fs f.e (0 + (f.p - 0) + f.i.length) 1 hf1 (fun y hy => g2 y (List.mem_cons_of_mem _ hy)) (by omega) e he
        exact ⟨by omega, this.2⟩
  by_cases ho : inOrd es = true
  · rw [ho, ite_b, if_neg (by decide), inverse_ok es (by omega) ho, bind_ok', due28_ok es (by omega) ho, bind_ok']
    have hib := ib es h1 h2 ho
    have hil := inv_len es 0 0
    have io := inv_ord es 0 0
    rw [same_refl 29 _ (plain_eds (by omega) hib), bind_ok', tr_b, bind_ok', not_b, bind_ok', or_b, if_neg (by decide), in_order_ok _ (by omega), bind_ok', io, same_b, bind_ok', tr_b, bind_ok', not_b, bind_ok', bind_ok', ite_b, if_neg (by decide), inverse_ok _ (by omega) io, bind_ok', inv_inv es 0 0 (fol_0 ho),
      same_refl 29 _ (plain_eds (by omega) fun e he => ⟨by have := (h2 e he).1; omega, (h2 e he).2⟩), bind_ok', tr_b, bind_ok', not_b, bind_ok', ite_b, if_neg (by decide)]
    have hE : EsB es := eds_b (n := 9) (by decide) h1 h2
    have hI : EsB (inv 0 0 es) := ⟨by omega, fun e he => by obtain ⟨a, b, c⟩ := hib e he; exact ⟨a, by omega, by omega⟩⟩
    rw [apply_ok l es hE (by omega), bind_ok', law_applied_ok l es hE (by omega), bind_ok']
    by_cases hk : okE l es = true
    · obtain ⟨k1, k2⟩ := okE_iff.mp hk
      have hrl : (resG l 0 es).length ≤ l.length + 100 * es.length := by
        have := res_sum (t := l) es 0 (fol_0 ho) (fun e he => ⟨fits_len (k2 e he), (h2 e he).2.2⟩) (Nat.zero_le _)
        omega
      have hbk := inv_back l es 0 [] (fol_0 ho) k2
      simp only [List.nil_append, List.length_nil, List.drop_zero] at hbk
      have hok : okE (resG l 0 es) (inv 0 0 es) = true := okE_iff.mpr ⟨io, hbk.1⟩
      rw [if_pos hk, same_refl 29 _ (plain_tx (by omega)), bind_ok', tr_b, bind_ok', not_b, bind_ok', ite_b, if_neg (by decide), show z1 .isN (tx (resG l 0 es)) = .ok (.bl false) from rfl, bind_ok', or_b, if_neg (by decide), apply_ok _ _ hI (by omega), bind_ok', if_pos hok, hbk.2, same_refl 29 _ (plain_tx (by omega))]
      exact zw_ok.mpr rfl
    · rw [if_neg hk, show f_law_same 30 D.non D.non = .ok (.bl true) from same_refl 29 D.non trivial, bind_ok', tr_b, bind_ok', not_b, bind_ok', ite_b, if_neg (by decide)]
      exact zw_ok.mpr rfl
  · have ho : inOrd es = false := by simpa using ho
    rw [ho, ite_b, if_pos (by decide), show itD .rng [D.int 2] = .ok ([0, 1].map fun k : Nat => D.int k) from rfl, bind_ok']
    have t1 : (es.take 1).length ≤ 1 := by simp; omega
    have o1 : inOrd (es.take 1) = true := by
      cases es with
      | nil => rfl
      | cons a r => rfl
    have hb1 := ib (es.take 1) (by omega) (fun e he => h2 e (List.mem_of_mem_take he)) o1
    have hil := inv_len (es.take 1) 0 0
    rw [for_all (fun k : Nat => D.int k) (fun _ => true) (D.bl false) (fun k _ => by
      rw [part_i, show (1 : Int) = ((1 : Nat) : Int) from rfl, slc_edsH, bind_ok', inverse_ok _ (by omega) o1, bind_ok', part_i, slc_edsH, bind_ok', due28_ok _ (by omega) o1, bind_ok', same_refl 29 _ (plain_eds (by omega) hb1), bind_ok', tr_b, bind_ok', not_b, bind_ok', or_b, if_neg (by decide), refused_ok es (by omega) ho, bind_ok', tr_b, bind_ok', not_b, bind_ok', bind_ok', ite_b, if_neg (by decide)]
      rfl), if_pos (by simp), bind_ok', fl_nx]
    exact zw_ok.mpr rfl
end K28
open PySem PySem.W PyProof.Rows
set_option maxHeartbeats 0 in
theorem PySem.Challenge.cw_gazette_k28_inverse_edits_holds : PySem.Challenge.rw_gazette_k28_inverse_edits.Holds := by
  w_on; o_law; k_head; (case hw => w_witness2)
  k_fill
  refine LamX.walk_ofTs (l := PySem.Challenge.rw_gazette_k28_inverse_edits) (n := 63) (k := 200) (x := "script") (CX := fun w => L2.CX PySem.Challenge.rw_gazette_k28_inverse_edits.prog w) rfl (by decide) rfl ⟨rfl, by decide, by decide⟩ (fun w h Y => PySem.W.kIn_of Y) ?F (fun _ _ _ _ _ h => G.cx_no h)
  case F =>
    intro w mg fa h Y KX G hmg
    refine' K28.all_mk KX G hmg ?a0 ?l0 ?q0 ?k0 ?a1 ?l1 ?q1 ?k1 ?a2 ?l2 ?q2 ?k2 ?a3 ?l3 ?q3 ?k3 ?a4 ?l4 ?q4 ?k4 ?a5 ?l5 ?q5 ?k5 ?a6 ?l6 ?q6 ?k6 ?a7 ?l7 ?q7 ?k7 ?a8 ?l8 ?q8 ?k8 ?a9 ?l9 ?q9 ?k9 ?a10 ?l10 ?q10 ?k10 ?a11 ?l11 ?q11 ?k11 ?a12 ?l12 ?q12 ?k12 ?a13 ?l13 ?q13 ?k13 ?a14 ?l14 ?q14 ?k14 ?a15 ?l15 ?q15 ?k15 ?a16 ?l16 ?q16 ?k16 ?a17 ?l17 ?q17 ?k17 ?a18 ?l18 ?q18 ?k18 ?a19 ?l19 ?q19 ?k19 ?a20 ?l20 ?q20 ?k20 ?a21 ?l21 ?q21 ?k21 ?a22 ?l22 ?q22 ?k22 ?a23 ?l23 ?q23 ?k23 ?a24 ?l24 ?q24 ?k24 ?aS ?lS ?qS ?kS ?n0_ ?n1_ ?n2_ ?n3_ ?n4_ ?n5_ ?n6_ ?n7_ ?n8_ ?n9_ ?n10_ ?n11_ ?n12_ ?n13_ ?n14_ ?n15_ ?n16_ ?n17_ ?n18_ ?n19_ ?nV ?xK ?t0_ ?t1_ ?t2_ ?t3_ ?t4_ ?t5_ ?t6_ ?t7_ ?t8_ ?t9_ ?t10_ ?t11_ ?t12_ ?t13_ ?t14_ ?t15_ ?t16_ ?t17_ ?t18_ ?t19_ ?tV_ ?z0 ?z1 ?z2 ?z3 ?z4 ?z5 ?z6 ?z7 ?z8 ?z9 ?z10 ?z11 ?z12 ?z13 ?z14 ?z15 ?z16 ?z17 ?z18 ?z19 ?z20 (K28.pure_of K28.law_ok)
    (case a0 => k_is)
    (case l0 => k_is)
    (case q0 => k_is)
    (case k0 => k_is)
    (case a1 => k_is)
    (case l1 => k_is)
    (case q1 => k_is)
    (case k1 => k_is)
    (case a2 => k_is)
    (case l2 => k_is)
    (case q2 => k_is)
    (case k2 => k_is)
    (case a3 => k_is)
    (case l3 => k_is)
    (case q3 => k_is)
    (case k3 => k_is)
    (case a4 => k_is)
    (case l4 => k_is)
    (case q4 => k_is)
    (case k4 => k_is)
    (case a5 => k_is)
    (case l5 => k_is)
    (case q5 => k_is)
    (case k5 => k_is)
    (case a6 => k_is)
    (case l6 => k_is)
    (case q6 => k_is)
    (case k6 => k_is)
    (case a7 => k_is)
    (case l7 => k_is)
    (case q7 => k_is)
    (case k7 => k_is)
    (case a8 => k_is)
    (case l8 => k_is)
    (case q8 => k_is)
    (case k8 => k_is)
    (case a9 => k_is)
    (case l9 => k_is)
    (case q9 => k_is)
    (case k9 => k_is)
    (case a10 => k_is)
    (case l10 => k_is)
    (case q10 => k_is)
    (case k10 => k_is)
    (case a11 => k_is)
    (case l11 => k_is)
    (case q11 => k_is)
    (case k11 => k_is)
    (case a12 => k_is)
    (case l12 => k_is)
    (case q12 => k_is)
    (case k12 => k_is)
    (case a13 => k_is)
    (case l13 => k_is)
    (case q13 => k_is)
    (case k13 => k_is)
    (case a14 => k_is)
    (case l14 => k_is)
    (case q14 => k_is)
    (case k14 => k_is)
    (case a15 => k_is)
    (case l15 => k_is)
    (case q15 => k_is)
    (case k15 => k_is)
    (case a16 => k_is)
    (case l16 => k_is)
    (case q16 => k_is)
    (case k16 => k_is)
    (case a17 => k_is)
    (case l17 => k_is)
    (case q17 => k_is)
    (case k17 => k_is)
    (case a18 => k_is)
    (case l18 => k_is)
    (case q18 => k_is)
    (case k18 => k_is)
    (case a19 => k_is)
    (case l19 => k_is)
    (case q19 => k_is)
    (case k19 => k_is)
    (case a20 => k_is)
    (case l20 => k_is)
    (case q20 => k_is)
    (case k20 => k_is)
    (case a21 => k_is)
    (case l21 => k_is)
    (case q21 => k_is)
    (case k21 => k_is)
    (case a22 => k_is)
    (case l22 => k_is)
    (case q22 => k_is)
    (case k22 => k_is)
    (case a23 => k_is)
    (case l23 => k_is)
    (case q23 => k_is)
    (case k23 => k_is)
    (case a24 => k_is)
    (case l24 => k_is)
    (case q24 => k_is)
    (case k24 => k_is)
    (case aS => k_is)
    (case lS => k_is)
    (case qS => k_is)
    (case kS => k_is)
    (case n0_ => k_is)
    (case n1_ => k_is)
    (case n2_ => k_is)
    (case n3_ => k_is)
    (case n4_ => k_is)
    (case n5_ => k_is)
    (case n6_ => k_is)
    (case n7_ => k_is)
    (case n8_ => k_is)
    (case n9_ => k_is)
    (case n10_ => k_is)
    (case n11_ => k_is)
    (case n12_ => k_is)
    (case n13_ => k_is)
    (case n14_ => k_is)
    (case n15_ => k_is)
    (case n16_ => k_is)
    (case n17_ => k_is)
    (case n18_ => k_is)
    (case n19_ => k_is)
    (case nV => k_is)
    (case xK => kernel_rfl)
    (case t0_ => kernel_rfl)
    (case t1_ => kernel_rfl)
    (case t2_ => kernel_rfl)
    (case t3_ => kernel_rfl)
    (case t4_ => kernel_rfl)
    (case t5_ => kernel_rfl)
    (case t6_ => kernel_rfl)
    (case t7_ => kernel_rfl)
    (case t8_ => kernel_rfl)
    (case t9_ => kernel_rfl)
    (case t10_ => kernel_rfl)
    (case t11_ => kernel_rfl)
    (case t12_ => kernel_rfl)
    (case t13_ => kernel_rfl)
    (case t14_ => kernel_rfl)
    (case t15_ => kernel_rfl)
    (case t16_ => kernel_rfl)
    (case t17_ => kernel_rfl)
    (case t18_ => kernel_rfl)
    (case t19_ => kernel_rfl)
    (case tV_ => kernel_rfl)
    (case z0 => k_is)
    (case z1 => k_is)
    (case z2 => k_is)
    (case z3 => k_is)
    (case z4 => k_is)
    (case z5 => k_is)
    (case z6 => k_is)
    (case z7 => k_is)
    (case z8 => k_is)
    (case z9 => k_is)
    (case z10 => k_is)
    (case z11 => k_is)
    (case z12 => k_is)
    (case z13 => k_is)
    (case z14 => k_is)
    (case z15 => k_is)
    (case z16 => k_is)
    (case z17 => k_is)
    (case z18 => k_is)
    (case z19 => k_is)
    (case z20 => k_is)
